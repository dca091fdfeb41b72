import PyProof.Rows.All
import Wide.All
import OpenK.AllK
import Wide.FinOn
import Lean
import PyProof.EqAt
import PyProof.EqKinds
import PyProof.TupleCall
import KE.KIsAll
import PyProof.ExcAttrAll.ValueError
import KE.KDictList
import KE.KDictLaws
import PyProof.Rows.SortShellK
import PySem.SetOps
import PyProof.SetScanFacts
import PyProof.Rows.SetFrom
import PySem.Challenge.RW_ordernest_k03_no_books
set_option Elab.async false
set_option linter.all false
set_option maxRecDepth 100000
namespace L2
open PySem PySem.Spec PyProof.Rows
abbrev Key:=Sum Int Str
def iu:Key->Value->Bool
 | .inl k,v=>Value.isInt k v
 | .inr x,v=>Value.isStrOf x v
def Ek (w:World):Key->Int
 | .inl k=>hashInt k
 | .inr x=>hashStr w x
theorem bU:∀{k:Key}{v:Value},iu k v=true->(∃i t,k=Sum.inl i∧v=Value.int i t)∨(∃x t,k=Sum.inr x∧v=Value.str x t)
 | .inl i,v,h=>by
  obtain⟨t,e⟩:=Value.isInt_shape (k:=i) (v:=v) h
  exact .inl ⟨i,t,rfl,e⟩
 | .inr x,v,h=>by
  obtain⟨t,e⟩:=Value.isStrOf_shape (x:=x) (v:=v) h
  exact .inr ⟨x,t,rfl,e⟩
theorem uy (i:Int) (t:Tok):iu (.inl i) (.int i t)=true:=by simp[iu,Value.isInt]
theorem uz (x:Str) (t:Tok):iu (.inr x) (.str x t)=true:=by simp[iu,Value.isStrOf]
theorem zX (a b:Int):decide ((Sum.inl a:Key)=Sum.inl b)=(a==b):=by
 by_cases e:a=b
 ·subst e;simp
 ·have h:¬(Sum.inl a:Key)=Sum.inl b:=fun q=>e (Sum.inl.inj q)
  rw[decide_eq_false h]
  exact(beq_eq_false_iff_ne.mpr e).symm
theorem zY (a b:Str):decide ((Sum.inr a:Key)=Sum.inr b)=decide (a=b):=by
 by_cases e:a=b
 ·subst e;simp
 ·have h:¬(Sum.inr a:Key)=Sum.inr b:=fun q=>e (Sum.inr.inj q)
  rw[decide_eq_false h,decide_eq_false e]
theorem zZ (a:Int) (b:Str):decide ((Sum.inl a:Key)=Sum.inr b)=false:=decide_eq_false (fun q=>nomatch q)
theorem Aa (a:Str) (b:Int):decide ((Sum.inr a:Key)=Sum.inl b)=false:=decide_eq_false (fun q=>nomatch q)
def bh (prog:Program) (w:World):PySem.KeyKind prog w Key where
 is:=iu
 hash:=Ek w
 inj:=fun v a b ha hb=>by
  rcases bU ha with⟨i,t,rfl,rfl⟩|⟨x,t,rfl,rfl⟩
  ·rcases bU hb with⟨j,u,rfl,e⟩|⟨y,u,rfl,e⟩
   ·injection e with e1 _;rw[e1]
   ·exact nomatch e
  ·rcases bU hb with⟨j,u,rfl,e⟩|⟨y,u,rfl,e⟩
   ·exact nomatch e
   ·injection e with e1 _;rw[e1]
 byValue:=fun k v h=>by
  rcases bU h with⟨i,t,rfl,rfl⟩|⟨x,t,rfl,rfl⟩ <;> rfl
 pyHash:=fun hv h=>by
  rcases bU hv with⟨i,t,rfl,rfl⟩|⟨x,t,rfl,rfl⟩
  ·exact wpAny_pyHash_int h
  ·exact wpAny_pyHash_str h
 eqBool:=fun hu hv h=>by
  rcases bU hu with⟨i,t,rfl,rfl⟩|⟨x,t,rfl,rfl⟩
  ·rcases bU hv with⟨j,u,rfl,rfl⟩|⟨y,u,rfl,rfl⟩
   ·rw[zX] at h;exact wpAny_eqBool_int h
   ·rw[zZ] at h;exact SeqAt.EqAt.int_str i t y u _ _ _ _ h
  ·rcases bU hv with⟨j,u,rfl,rfl⟩|⟨y,u,rfl,rfl⟩
   ·rw[Aa] at h;exact SeqAt.EqAt.str_int x t j u _ _ _ _ h
   ·rw[zY] at h;exact wpAny_eqBool_str h
 «strs»:=fun k x t v h=>by
  rcases bU h with⟨i,u,rfl,e⟩|⟨y,u,rfl,e⟩
  ·exact nomatch e
  ·injection e with e1 _
   subst e1
   cases v <;> rfl
theorem sJ (prog:Program) (w:World) (k:Key) (v:Value):(bh prog w).is k v=iu k v:=rfl
theorem qX (prog:Program) (w:World) (i:Int) (t:Tok):(bh prog w).is (.inl i) (.int i t)=true:=uy i t
theorem qY (prog:Program) (w:World) (x:Str) (t:Tok):(bh prog w).is (.inr x) (.str x t)=true:=uz x t
end L2
namespace L2
open PySem PySem.Spec PyProof.Rows
inductive V where
 | non|bl (b:Bool)|int (i:Int)|str (x:Str)|byt (b:Array UInt8)|flt (b:UInt64)|ref (a:Addr)|ty (n:String)
 deriving DecidableEq
def aF:V->Value->Prop
 | .non,u=>u=Value.none
 | .bl b,u=>u=Value.bool b
 | .int i,u=>∃t,u=Value.int i t
 | .str x,u=>∃t,u=Value.str x t
 | .byt b,u=>∃t,u=Value.bytes b t
 | .flt b,u=>∃t,u=Value.float b t
 | .ref a,u=>u=Value.ref a
 | .ty n,u=>u=Value.type n
abbrev az:List V->List Value->Prop:=Paired aF
theorem az.length {xs:List V}{us:List Value}(r:az xs us):xs.length=us.length:=Paired.length r
theorem az.get:∀{xs:List V}{us:List Value}{i:Nat}{x:V},az xs us->xs[i]?=some x->∃u,us[i]?=some u∧aF x u
 | _,_,_,_,.nil,e=>by simp at e
 | _,_,0,_,.cons r _,e=>by simp at e;subst e;exact⟨_,rfl,r⟩
 | _,_,i+1,x,.cons _ t,e=>by
  obtain⟨u,h1,h2⟩:=az.get (i:=i) (x:=x) t (by simpa using e)
  exact⟨u,by simpa using h1,h2⟩
theorem az.append:∀{xs ys:List V}{us ws:List Value},az xs us->az ys ws->az (xs++ys) (us++ws)
 | _,_,_,_,.nil,s=>s
 | _,_,_,_,.cons r t,s=>.cons r (az.append t s)
theorem az.take:∀{xs:List V}{us:List Value}(n:Nat),az xs us->az (xs.take n) (us.take n)
 | _,_,0,_=>.nil
 | _,_,_+1,.nil=>.nil
 | _,_,n+1,.cons r t=>.cons r (az.take n t)
theorem az.drop:∀{xs:List V}{us:List Value}(n:Nat),az xs us->az (xs.drop n) (us.drop n)
 | _,_,0,r=>r
 | _,_,_+1,.nil=>.nil
 | _,_,n+1,.cons _ t=>az.drop n t
def dX:Option V->Option Value->Prop
 | some v,some u=>aF v u
 | none,none=>True
 | _,_=>False
def KV {κ:Type}:List (κ×V)->List (κ×Value)->Prop:=Paired fun(p:κ×V) (q:κ×Value)=>p.1=q.1∧aF p.2 q.2
def kV:Key->V
 | .inl i=>.int i
 | .inr x=>.str x
inductive HO where
  | lst (xs:List V)
  | tup (xs:List V)
  | dK (kvs:List (Key×V))|dT (kvs:List (List Key×V))
  | set (S:Int->Bool) (n:Nat)
  | ins (C dx:Addr) (fs:List (Str×V))
  | own (x:Addr)
  | xd (fs:List (Str×V))
  | met (f x:Addr)
  | rng (lo hi:Int)
  | frz (o:Obj) (u:HO)
  | tbl (ps:Array Value)
  | ext (φ:Heap->Prop)
abbrev Hp:=Addr->Option HO
def upd (H:Hp) (a:Addr) (o:HO):Hp:=fun b=>if b=a then some o else H b
theorem ag {H:Hp}{a:Addr}{o:HO}:upd H a o a=some o:=by unfold upd;rw[if_pos rfl]
theorem aq {H:Hp}{a b:Addr}{o:HO}(h:b≠a):upd H a o b=H b:=by unfold upd;rw[if_neg h]
theorem oj {H:Hp}{a b:Addr}{o u:HO}(h:H a=some o) (h':H b=some u) (d:o≠u):a≠b:=by
 intro e;subst e;rw[h] at h';exact d (Option.some.inj h')
theorem ar {H:Hp}{a b:Addr}{o:HO}(h:H a=some o) (h':H b=none):a≠b:=by
 intro e;subst e;rw[h] at h';cases h'
section
variable (P:Program) (w:World)
def bc (H:Hp) (h:Heap) (a:Addr):HO->Prop
 | .lst xs=>xs.length≤sizeLine∧∃(its:List Value) (n:Nat),az xs its∧h.get? a=some { cls:=.type "list",data:=.seq its.toArray n }
 | .tup xs=>xs.length≤sizeLine∧∃its:List Value,az xs its∧IsTup h a its.toArray
 | .dK kvs=>kvs.length≤sizeLine∧(a==sysModules)=false∧∃vs,KV kvs vs∧h.DictOf (bh P w) a vs
 | .dT kvs=>kvs.length≤sizeLine∧(a==sysModules)=false∧∃xs:List (List Key×Addr×Value),
   Paired (fun(p:List Key×V) (q:List Key×Addr×Value)=>p.1=q.1∧H q.2.1=some (.tup (p.1.map kV))∧aF p.2 q.2.2) kvs xs∧
   ∃o es ep,h.get? a=some o∧o.ExactDict∧o.data=.dict es ep∧es.toList=xs.map (entryOfKey (tupleKind (bh P w)))∧(xs.map (·.1)).Nodup
 | .set S n=>h.SetOf (intKind P w) a S n
 | .ins C dx fs=>H dx=some (.own a)∧fs.length≤1000∧dx≠a∧h.get? a=some (W.instObj C dx)∧
   ∃mA,h.Ns1 dx mA∧(∀f,dX (fs.lookup f) (mA f))∧PySem.Within mA (fs.map (·.1))
 | .own _=>∃o,h.get? a=some o
 | .xd fs=>∃mA,h.Ns1 a mA∧∀f,dX (fs.lookup f) (mA f)
 | .rng lo hi=>∃t u v,h.get? a=some { cls:=.type "range",data:=.fields #[.int lo t,.int hi u,.int 1 v] }
 | .frz o u=>h.get? a=some o∧bc H h a u
 | .tbl ps=>h.get? a=some { cls:=.none,data:=.fields ps }
 | .met f x=>h.get? a=some (W.methodObj (.ref f) (.ref x))
 | .ext φ=>φ h∧(∃o,h.get? a=some o)∧∀h1 h2:Heap,φ h1->(∀o,h1.get? a=some o->h2.get? a=some o)->φ h2
def HOk (H:Hp) (h:Heap):Prop:=∀a o,H a=some o->bc P w H h a o
end
section
variable {P:Program}{w:World}{H H':Hp}{h h':Heap}{a:Addr}{o:HO}
theorem bc.lt (x:bc P w H h a o):a<h.objs.size:=by
 cases o with
 | lst xs=>obtain⟨_,_,_,_,e⟩:=x;exact Heap.lt_size e
 | tup xs=>obtain⟨_,_,_,p⟩:=x;exact p.lt
 | dK kvs=>obtain⟨_,_,_,_,o,_,_,e,_⟩:=x;exact Heap.lt_size e
 | dT kvs=>obtain⟨_,_,_,_,o,_,_,e,_⟩:=x;exact Heap.lt_size e
 | set S n=>obtain⟨o,_,_,_,e,_⟩:=x;exact Heap.lt_size e
 | ins C dx fs=>obtain⟨_,_,_,e,_⟩:=x;exact Heap.lt_size e
 | own y=>obtain⟨_,e⟩:=x;exact Heap.lt_size e
 | xd fs=>obtain⟨_,⟨_,_,_,e,_⟩,_⟩:=x;exact Heap.lt_size e
 | rng lo hi=>obtain⟨_,_,_,e⟩:=x;exact Heap.lt_size e
 | frz ob u=>obtain⟨e,_⟩:=x;exact Heap.lt_size e
 | tbl ps=>exact Heap.lt_size (show h.get? a=some _ from x)
 | met f y=>exact Heap.lt_size (show h.get? a=some _ from x)
 | ext φ=>obtain⟨_,⟨_,e⟩,_⟩:=x;exact Heap.lt_size e
theorem Paired.mapP {α β:Type}{F G:α->β->Prop}:∀{l₁:List α}{l₂:List β},Paired F l₁ l₂->(∀a b,F a b->G a b)->Paired G l₁ l₂
 | _,_,.nil,_=>.nil
 | _,_,.cons r t,f=>.cons (f _ _ r) (Paired.mapP t f)
theorem bc.stay (x:bc P w H h a o) (k:∀b u,(b=a∨H b=some (.own a))->h.get? b=some u->h'.get? b=some u)
  (ho:∀b,H b=some (.own a)->H' b=some (.own a)) (ht:∀b xs,H b=some (.tup xs)->H' b=some (.tup xs)):bc P w H' h' a o:=by
 induction o with
 | lst xs=>obtain⟨z,its,n,r,e⟩:=x;exact⟨z,its,n,r,k _ _ (.inl rfl) e⟩
 | tup xs=>obtain⟨z,its,r,ob,e,c⟩:=x;exact⟨z,its,r,ob,k _ _ (.inl rfl) e,c⟩
 | dK kvs=>obtain⟨z,y,vs,r,ob,es,ep,e,c⟩:=x;exact⟨z,y,vs,r,ob,es,ep,k _ _ (.inl rfl) e,c⟩
 | dT kvs=>
  obtain⟨z,y,xs,r,ob,es,ep,e,c⟩:=x
  exact⟨z,y,xs,Paired.mapP r fun p q z=>⟨z.1,ht _ _ z.2.1,z.2.2⟩,ob,es,ep,k _ _ (.inl rfl) e,c⟩
 | set S n=>obtain⟨ob,es,ep,t,e,c⟩:=x;exact⟨ob,es,ep,t,k _ _ (.inl rfl) e,c⟩
 | ins C dx fs=>
  obtain⟨d,z,ne,e,mA,⟨od,es,ep,e2,c⟩,r⟩:=x
  exact⟨ho _ d,z,ne,k _ _ (.inl rfl) e,mA,⟨od,es,ep,k _ _ (.inr d) e2,c⟩,r⟩
 | own y=>obtain⟨ob,e⟩:=x;exact⟨ob,k _ _ (.inl rfl) e⟩
 | xd fs=>obtain⟨mA,⟨od,es,ep,e,c⟩,r⟩:=x;exact⟨mA,⟨od,es,ep,k _ _ (.inl rfl) e,c⟩,r⟩
 | rng lo hi=>obtain⟨t,u,v,e⟩:=x;exact⟨t,u,v,k _ _ (.inl rfl) e⟩
 | frz ob u ih=>obtain⟨e,q⟩:=x;exact⟨k _ _ (.inl rfl) e,ih q⟩
 | tbl ps=>
  have e:h.get? a=some { cls:=.none,data:=.fields ps }:=x
  show h'.get? a=some { cls:=.none,data:=.fields ps }
  exact k a _ (.inl rfl) e
 | met f y=>
  have e:h.get? a=some (W.methodObj (.ref f) (.ref y)):=x
  show h'.get? a=some (W.methodObj (.ref f) (.ref y))
  exact k a _ (.inl rfl) e
 | ext φ=>obtain⟨p,⟨o,e⟩,st⟩:=x;exact⟨st _ _ p fun o q=>k _ _ (.inl rfl) q,⟨o,k _ _ (.inl rfl) e⟩,st⟩
theorem HOk.lt (x:HOk P w H h) (e:H a=some o):a<h.objs.size:=(x a o e).lt
theorem HOk.fresh (x:HOk P w H h) (e:h.objs.size≤a):H a=none:=by
 cases q:H a with
 | none=>rfl
 | some u=>exact absurd (Nat.lt_of_lt_of_le (x.lt q) e) (Nat.lt_irrefl _)
theorem HOk.kept (x:HOk P w H h) (k:∀b u,h.get? b=some u->h'.get? b=some u):HOk P w H h':=fun a o e=>
 (x a o e).stay (fun b u _ q=>k b u q) (fun _ q=>q) fun _ _ q=>q
theorem HOk.laid (x:HOk P w H h) (k:∀b u,h.get? b=some u->h'.get? b=some u) (hp:h.objs.size≤a) (new:bc P w (upd H a o) h' a o):HOk P w (upd H a o) h':=fun b u e=>by
 have hn:=x.fresh hp
 by_cases hb:b=a
 ·subst hb;rw[ag] at e;cases e;exact new
 ·rw[aq hb] at e
  exact(x b u e).stay (fun c v _ q=>k c v q) (fun c q=>by rw[aq (ar q hn)];exact q) fun c xs q=>by rw[aq (ar q hn)];exact q
end
def Rd (H:Hp) (a:Addr) (u:HO):Prop:=H a=some u∨∃o,H a=some (.frz o u)
theorem Rd.ok {P:Program}{w:World}{H:Hp}{h:Heap}{a:Addr}{u:HO}(r:Rd H a u) (x:HOk P w H h):bc P w H h a u:=by
 rcases r with r|⟨o,r⟩
 ·exact x a u r
 ·obtain⟨_,q⟩:=x a _ r
  exact q
def Mut:Option HO->Prop
 | some (.lst _)=>True
 | some (.dK _)=>True
 | some (.dT _)=>True
 | some (.set _ _)=>True
 | some (.ins _ _ _)=>True
 | some (.ext _)=>True
 | _=>False
section
variable {P:Program}{w:World}{H:Hp}{h h':Heap}{x e:Addr}{o':HO}
theorem HOk.write (ok:HOk P w H h) (mu:Mut (H x)) (he:e=x∨H e=some (.own x)) (k:∀b u,b≠e->h.get? b=some u->h'.get? b=some u) (heo:∃u,h'.get? e=some u)
  (new:bc P w (upd H x o') h' x o'):HOk P w (upd H x o') h':=fun b u q=>by
 have nown:∀c y,H c=some (.own y)->c≠x:=fun c y r z=>by subst z;rw[r] at mu;exact mu
 have ntup:∀c xs,H c=some (.tup xs)->c≠x:=fun c xs r z=>by subst z;rw[r] at mu;exact mu
 by_cases hb:b=x
 ·subst hb;rw[ag] at q;cases q;exact new
 ·rw[aq hb] at q
  by_cases hbe:b=e
  ·have q':H b=some (.own x):=by
    rcases he with z|z
    ·exact absurd (hbe.trans z) hb
    ·rw[hbe];exact z
   rw[q] at q';cases q'
   obtain⟨v,hv⟩:=heo
   exact⟨v,by rw[hbe];exact hv⟩
  ·refine(ok b u q).stay (fun c v hc r=>k c v ?_ r) (fun c r=>by rw[aq (nown c b r)];exact r) fun c xs r=>by rw[aq (ntup c xs r)];exact r
   rcases hc with rfl|hc
   ·exact hbe
   ·rintro rfl
    rcases he with z|z
    ·exact nown c b hc z
    ·rw[hc] at z;cases z;exact hb rfl
end
structure Un (fs ex:List Addr) (H H':Hp) (h h':Heap):Prop where
 keep:∀b o,h.get? b=some o->H b=none->b∉fs->b∉ex->h'.get? b=some o
 slot:∀b o,h.get? b=some o->H b=none->b∈fs->b∉ex->∃sl,h'.get? b=some { o with slots:=sl }
 free:∀b o,h.get? b=some o->H b=none->b∉ex->H' b=none
 there:∀b o,h.get? b=some o->b∉ex->∃o',h'.get? b=some o'
 tups:∀b xs,H b=some (.tup xs)->H' b=some (.tup xs)
 frzs:∀b o u,H b=some (.frz o u)->H' b=some (.frz o u)
 tbls:∀b ps,H b=some (.tbl ps)->∃more,H' b=some (.tbl (ps++more))
section
variable {fs fs' ex ex':List Addr}{H H1 H2:Hp}{h h1 h2 h':Heap}{a x e:Addr}{o:HO}
theorem Un.any (u:Un fs ex H H1 h h1) {b:Addr}{ob:Obj}(q:h.get? b=some ob) (n:H b=none) (hx:b∉ex):∃sl,h1.get? b=some { ob with slots:=sl }:=by
 by_cases hb:b∈fs
 ·exact u.slot b ob q n hb hx
 ·exact⟨ob.slots,u.keep b ob q n hb hx⟩
theorem Un.kept (k:∀b u,h.get? b=some u->h'.get? b=some u):Un fs ex H H h h':=
 ⟨fun b ob q _ _ _=>k b ob q,fun b ob q _ _ _=>⟨ob.slots,k b ob q⟩,fun _ _ _ n _=>n,fun b ob q _=>⟨ob,k b ob q⟩,fun _ _ q=>q,fun _ _ _ q=>q,fun _ ps q=>⟨#[],by rw[q];simp⟩⟩
theorem Un.refl:Un fs ex H H h h:=Un.kept fun _ _ q=>q
theorem Un.laid (k:∀b u,h.get? b=some u->h'.get? b=some u) (hp:h.objs.size≤a) (hn:H a=none):Un fs ex H (upd H a o) h h' where
 keep:=fun b u q _ _ _=>k b u q
 slot:=fun b u q _ _ _=>⟨u.slots,k b u q⟩
 free:=fun b u q n _=>by rw[aq (Nat.ne_of_lt (Nat.lt_of_lt_of_le (Heap.lt_size q) hp))];exact n
 there:=fun b u q _=>⟨u,k b u q⟩
 tups:=fun b xs q=>by rw[aq (ar q hn)];exact q
 frzs:=fun b u xs q=>by rw[aq (ar q hn)];exact q
 tbls:=fun b ps q=>⟨#[],by rw[aq (ar q hn),q];simp⟩
theorem Un.write (mu:Mut (H x)) (he:e=x∨H e=some (.own x)) (k:∀b u,b≠e->h.get? b=some u->h'.get? b=some u) (heo:∃u,h'.get? e=some u):Un fs ex H (upd H x o) h h':=by
 have hx:∀b,H b=none->b≠x:=fun b n z=>by subst z;rw[n] at mu;exact mu
 have hb:∀b,H b=none->b≠e:=fun b n z=>by
  subst z
  rcases he with r|r
  ·exact hx b n r
  ·rw[n] at r;cases r
 have hm:∀b u,H b=some u->¬Mut (some u)->b≠x:=fun b u q nm z=>by subst z;rw[q] at mu;exact nm mu
 refine⟨fun b u q n _ _=>k b u (hb b n) q,fun b u q n _ _=>⟨u.slots,k b u (hb b n) q⟩,fun b u q n _=>by rw[aq (hx b n)];exact n,fun b u q _=>?_,
  fun b xs q=>by rw[aq (hm b _ q fun z=>z)];exact q,fun b u xs q=>by rw[aq (hm b _ q fun z=>z)];exact q,fun b ps q=>⟨#[],by rw[aq (hm b _ q fun z=>z),q];simp⟩⟩
 by_cases hbe:b=e
 ·subst hbe;exact heo
 ·exact⟨u,k b u hbe q⟩
end
def trk (h:Heap) (H:Hp):List Addr:=(List.range h.objs.size).filter fun a=>(H a).isSome
def iw (h:Heap) (H:Hp):Heap:=W.hideAll h (trk h H)
theorem uA (h:Heap) (H:Hp):(iw h H).objs.size=h.objs.size:=W.hideAll_size _ _
theorem wn {h:Heap}{H:Hp}{b:Addr}{o:Obj}(e:h.get? b=some o) (n:H b=none):(iw h H).get? b=some o:=
 W.hideAll_get _ e fun hm=>by
  have q:(H b).isSome=true:=(List.mem_filter.mp hm).2
  rw[n] at q;simp at q
theorem yE {h:Heap}{H:Hp}{b:Addr}{o:Obj}(e:(iw h H).get? b=some o):h.get? b=some o∧H b=none:=by
 have e':h.get? b=some o:=W.of_hideAll (trk h H) e
 refine⟨e',?_⟩
 cases q:H b with
 | none=>rfl
 | some x=>
  have hm:b∈trk h H:=List.mem_filter.mpr ⟨List.mem_range.mpr (Heap.lt_size e'),by simp[q]⟩
  have z:(iw h H).get? b=none:=W.hideAll_none (trk h H) hm
  rw[z] at e;cases e
end L2
namespace L2
open PySem PySem.Spec PyProof.Rows
structure Mod (K:W.Frag) (mg:Str->Option Value) (base:Heap):Prop where
 kin:K.In base
 glob:base.Ns mainGlobals mg
 blt:∃mb,base.Ns builtinsNs mb∧∀x:Str,x≠"__name__"->mb x=bootBuiltins x
 nolimit:base.NoLimit
structure Cx where
 prog:Program
 w:World
 K:W.Frag
 mg:Str->Option Value
 base:Heap
 A:Around
 N:List Str
 s₀:Shared
 H₀:Hp
 env:Env
 outer:List Env
 stack:List Env
 ex:List Addr
 fn:Str->Bool
 calm:Bool
 pn:List (Addr×Obj)
 xe:Value->Shared->Prop
def frs (l:List Env):List Addr:=l.filterMap (·.frame)
abbrev Cx.fs (X:Cx):List Addr:=frs X.outer
def Vis (sc:Scope) (x:Str):Prop:=sc.names.lookup x=some .local ∨sc.names.lookup x=some .cell∨sc.names.lookup x=some .free
def Loc (sc:Scope) (x:Str):Prop:=sc.names.lookup x=some .local ∨sc.names.lookup x=some .cell
def Ab (env:Env) (h:Heap) (m:Str->Option Value) (x:Str) (u:Value):Prop:=
 (env.kindOf x=some .local ∧m x=some u)∨((env.kindOf x=some .cell∨env.kindOf x=some .free)∧∃c,env.cells.lookup x=some c∧h.IsCell c (some u))
structure Cx.Ok (X:Cx):Prop where
 mod:Mod X.K X.mg X.base
 kind:X.env.scope.kind=.function
 glob:X.env.globals=mainGlobals
 blt:X.env.builtins=builtinsNs
 above:X.s₀.heap.objs.size≤X.env.locals
 inj:∀x y c,X.env.cells.lookup x=some c->X.env.cells.lookup y=some c->x=y
 has:∀x,(X.env.kindOf x=some .cell∨X.env.kindOf x=some .free)->∃c,X.env.cells.lookup x=some c
 cab:∀x c,X.fn x=true->X.env.cells.lookup x=some c->X.s₀.heap.objs.size≤c
 hd:X.calm=true->X.A.handled=none
 frames:X.A.frames=some X.stack
 stk:X.stack=X.outer∨(X.stack=X.env::X.outer∧X.env.frame=some X.env.locals)
 exf:∀b∈X.ex,b≠X.env.locals∧∀x c,X.env.cells.lookup x=some c->c≠b
 bs:∀b o,X.base.get? b=some o->X.s₀.heap.get? b=some o∧X.H₀ b=none
 bsz:X.base.objs.size≤X.s₀.heap.objs.size
 noex:∀b o,X.base.get? b=some o->b∉X.ex
 exfs:∀b∈X.ex,b∉X.fs
 funs:X.s₀.heap.FunFrames X.base X.outer
 frf:∀b∈X.fs,X.H₀ b=none
structure Inv (X:Cx) (aa:List (Addr×Obj)) (σ:List (Option V)) (H:Hp) (s:Shared):Prop where
 ok:X.Ok
 os:s.os=X.s₀.os
 bare:AllBare s.gens
 base:Un X.fs X.ex X.H₀ H X.s₀.heap s.heap
 loc:∃m,s.heap.Ns X.env.locals m∧∀(i:Nat) (x:Str) (v:V),X.N[i]?=some x->σ[i]?=some (some v)->Vis X.env.scope x->∃u,aF v u∧Ab X.env s.heap m x u
 cell:∀x c,X.env.cells.lookup x=some c->∃v,s.heap.IsCell c v
 free:H X.env.locals=none
 freeC:∀x c,X.env.cells.lookup x=some c->H c=none
 pin:∀p∈X.pn++aa,s.heap.get? p.1=some p.2∧H p.1=none∧p.1≠X.env.locals∧p.1∉X.fs∧∀v,p.2.data≠.cell v
 hok:HOk X.prog X.w H s.heap
 len:σ.length=X.N.length
section
variable {X:Cx}{aa:List (Addr×Obj)}{σ:List (Option V)}{H H':Hp}{s:Shared}{h':Heap}
theorem Cx.Ok.nofr (ok:X.Ok) {b:Addr}{o:Obj}(e:X.base.get? b=some o):b∉X.fs:=fun hb=>by
 have:=(ok.funs.mem hb).1
 rw[e] at this;cases this
theorem Inv.bs (I:Inv X aa σ H s):∀b o,X.base.get? b=some o->s.heap.get? b=some o∧H b=none:=fun b o e=>
 ⟨I.base.keep b o (I.ok.bs b o e).1 (I.ok.bs b o e).2 (I.ok.nofr e) (I.ok.noex b o e),I.base.free b o (I.ok.bs b o e).1 (I.ok.bs b o e).2 (I.ok.noex b o e)⟩
theorem Inv.bk (I:Inv X aa σ H s):∀b o,X.base.get? b=some o->s.heap.get? b=some o:=fun b o e=>(I.bs b o e).1
theorem Inv.mod (I:Inv X aa σ H s):Mod X.K X.mg X.base:=I.ok.mod
theorem Inv.kIn (I:Inv X aa σ H s):X.K.In s.heap:=I.ok.mod.kin.keeps I.bk
theorem Inv.lt (I:Inv X aa σ H s):X.env.locals<s.heap.objs.size:=let ⟨_,hn,_⟩:=I.loc;hn.lt
theorem Inv.sz (I:Inv X aa σ H s):X.s₀.heap.objs.size≤s.heap.objs.size:=Nat.le_trans I.ok.above (Nat.le_of_lt I.lt)
theorem Inv.nofs (I:Inv X aa σ H s) {a:Addr}(h:s.heap.objs.size≤a):a∉X.fs:=fun hb=>by
 obtain⟨_,o,ho,_⟩:=I.ok.funs.mem hb
 exact absurd (Nat.lt_of_lt_of_le (Heap.lt_size ho) (Nat.le_trans I.sz h)) (Nat.lt_irrefl _)
theorem Inv.cne (I:Inv X aa σ H s):∀x c,X.env.cells.lookup x=some c->c≠X.env.locals:=fun x c e z=>by
 obtain⟨v,o,ho,hd⟩:=I.cell x c e
 obtain⟨m,⟨o',es,ep,ho',hd',_⟩,_⟩:=I.loc
 rw[z,ho'] at ho;cases ho;rw[hd'] at hd;cases hd
theorem Inv.funs (I:Inv X aa σ H s):s.heap.FunFrames X.base X.outer:=by
 have all:∀(l:List Env),(∀b∈frs l,b∈X.fs)->X.s₀.heap.FunFrames X.base l->s.heap.FunFrames X.base l:=by
  intro l
  induction l with
  | nil=>intro _ _;trivial
  | cons env r ih=>
   intro hs hl
   obtain⟨hk,⟨L,o,hf,hn,ho,hd⟩,hr⟩:=hl
   have hL:L∈X.fs:=hs L (by unfold frs;rw[List.filterMap_cons,hf];exact List.mem_cons_self)
   obtain⟨sl,e⟩:=I.base.slot L o ho (I.ok.frf L hL) hL fun z=>I.ok.exfs L z hL
   exact⟨hk,⟨L,_,hf,hn,e,hd⟩,ih (fun b hb=>hs b (by unfold frs;rw[List.filterMap_cons,hf];exact List.mem_cons_of_mem _ hb)) hr⟩
 exact all X.outer (fun _ hb=>hb) I.ok.funs
theorem Inv.stack (I:Inv X aa σ H s):s.heap.FunFrames X.base X.stack:=by
 rcases I.ok.stk with e|⟨e,hf⟩
 ·rw[e];exact I.funs
 ·rw[e]
  obtain⟨m,hn,_⟩:=I.loc
  refine .cons (by rw[I.ok.kind];decide) hf hn ?_ I.funs
  exact Heap.get?_none_of_le (Nat.le_trans I.ok.bsz I.ok.above)
theorem Inv.stkSub (I:Inv X aa σ H s):∀b∈frs X.stack,b∈X.env.locals::X.fs:=fun b hb=>by
 rcases I.ok.stk with e|⟨e,hf⟩
 ·rw[e] at hb;exact List.mem_cons_of_mem _ hb
 ·rw[e] at hb
  unfold frs at hb
  rw[List.filterMap_cons,hf] at hb
  exact hb
theorem Inv.stkFree (I:Inv X aa σ H s):∀b∈frs X.stack,H b=none:=fun b hb=>by
 rcases List.mem_cons.mp (I.stkSub b hb) with e|hb
 ·rw[e];exact I.free
 ·obtain⟨_,o,ho,_⟩:=I.ok.funs.mem hb
  exact I.base.free b o ho (I.ok.frf b hb) fun z=>I.ok.exfs b z hb
theorem Inv.step {g':Array GenState}{t':Nat}{d':Drawn}{ch:List Addr}(I:Inv X aa σ H s)
  (hch:∀b∈ch,(b∈X.ex∨X.s₀.heap.objs.size≤b)∧b≠X.env.locals∧(∀x c,X.env.cells.lookup x=some c->c≠b)∧∀p∈X.pn++aa,p.1≠b)
  (keep:∀b o,b≠X.env.locals->b∉X.fs->b∉ch->s.heap.get? b=some o->H b=none->h'.get? b=some o)
  (slot:∀b o,b≠X.env.locals->b∈X.fs->b∉ch->s.heap.get? b=some o->H b=none->∃sl,h'.get? b=some { o with slots:=sl }) (free:∀b o,b∉ch->s.heap.get? b=some o->H b=none->H' b=none)
  (there:∀b o,b∉ch->s.heap.get? b=some o->∃o',h'.get? b=some o')
  (tups:∀b xs,H b=some (.tup xs)->H' b=some (.tup xs)) (frzs:∀b o u,H b=some (.frz o u)->H' b=some (.frz o u)) (tbls:∀b ps,H b=some (.tbl ps)->∃more,H' b=some (.tbl (ps++more)))
  (ns:∀m,s.heap.Ns X.env.locals m->h'.Ns X.env.locals m) (hok:HOk X.prog X.w H' h') (hg:AllBare g') :
  Inv X aa σ H' { s with heap:=h',gens:=g',drawn:=d',toks:=t' }:=by
 have neL:∀b o,X.s₀.heap.get? b=some o->b≠X.env.locals:=fun b o e=>Nat.ne_of_lt (Nat.lt_of_lt_of_le (Heap.lt_size e) I.ok.above)
 have neC:∀b o,X.s₀.heap.get? b=some o->b∉X.ex->b∉ch:=fun b o e hx hb=>by
  rcases(hch b hb).1 with z|z
  ·exact hx z
  ·exact absurd (Nat.lt_of_lt_of_le (Heap.lt_size e) z) (Nat.lt_irrefl _)
 have cellK:∀x c,X.env.cells.lookup x=some c->∀v,s.heap.IsCell c v->h'.IsCell c v:=fun x c e v ⟨o,ho,hd⟩=>by
  have nch:c∉ch:=fun z=>(hch c z).2.2.1 x c e rfl
  by_cases hc:c∈X.fs
  ·obtain⟨sl,q⟩:=slot c o (I.cne x c e) hc nch ho (I.freeC x c e)
   exact⟨_,q,hd⟩
  ·exact⟨o,keep c o (I.cne x c e) hc nch ho (I.freeC x c e),hd⟩
 refine⟨I.ok,I.os,hg,⟨fun b o e n hb hx=>?_,fun b o e n hb hx=>?_,fun b o e n hx=>?_,fun b o e hx=>?_,fun b xs e=>tups b xs (I.base.tups b xs e),fun b o xs e=>frzs b o xs (I.base.frzs b o xs e),fun b ps e=>?_⟩,?_,fun x c e=>?_,?_,fun x c e=>?_,fun p hp=>?_,hok,I.len⟩
 ·exact keep b o (neL b o e) hb (neC b o e hx) (I.base.keep b o e n hb hx) (I.base.free b o e n hx)
 ·obtain⟨sl,e1⟩:=I.base.slot b o e n hb hx
  obtain⟨sl',e2⟩:=slot b _ (neL b o e) hb (neC b o e hx) e1 (I.base.free b o e n hx)
  exact⟨sl',e2⟩
 ·obtain⟨o',e1⟩:=I.base.there b o e hx
  exact free b o' (neC b o e hx) e1 (I.base.free b o e n hx)
 ·obtain⟨o',e1⟩:=I.base.there b o e hx
  exact there b o' (neC b o e hx) e1
 ·obtain⟨m1,e1⟩:=I.base.tbls b ps e
  obtain⟨m2,e2⟩:=tbls b _ e1
  exact⟨m1++m2,by rw[e2,Array.append_assoc]⟩
 ·obtain⟨m,hn,hl⟩:=I.loc
  refine⟨m,ns m hn,fun i x v e1 e2 e3=>?_⟩
  obtain⟨u,r,l⟩:=hl i x v e1 e2 e3
  refine⟨u,r,?_⟩
  rcases l with l|⟨k,c,e,z⟩
  ·exact .inl l
  ·exact .inr ⟨k,c,e,cellK x c e _ z⟩
 ·obtain⟨v,z⟩:=I.cell x c e
  exact⟨v,cellK x c e v z⟩
 ·obtain⟨m,⟨o,_,_,ho,_⟩,_⟩:=I.loc
  exact free _ o (fun z=>(hch _ z).2.1 rfl) ho I.free
 ·obtain⟨v,o,ho,hd⟩:=I.cell x c e
  exact free c o (fun z=>(hch c z).2.2.1 x c e rfl) ho (I.freeC x c e)
 ·obtain⟨e,n,ne,nf,d⟩:=I.pin p hp
  have nch:p.1∉ch:=fun z=>(hch p.1 z).2.2.2 p hp rfl
  exact⟨keep p.1 p.2 ne nf nch e n,free p.1 p.2 nch e n,ne,nf,d⟩
theorem Inv.un {t':Nat}(I:Inv X aa σ H s) (u:Un X.fs [] H H' s.heap h') (hok:HOk X.prog X.w H' h'):Inv X aa σ H' { s with heap:=h',toks:=t' }:=by
 obtain⟨m,⟨o,es,ep,ho,r⟩,_⟩:=id I.loc
 obtain⟨sl,hL⟩:=u.any ho I.free (by simp)
 exact I.step (g':=s.gens) (d':=s.drawn) (ch:=[]) (fun _ z=>nomatch z) (fun b o _ hb _ e n=>u.keep b o e n hb (by simp)) (fun b o _ hb _ e n=>u.slot b o e n hb (by simp)) (fun b o _ e n=>u.free b o e n (by simp)) (fun b o _ e=>u.there b o e (by simp)) u.tups u.frzs u.tbls (fun m' hm=>by
  obtain⟨o',es',ep',ho',r'⟩:=hm
  rw[ho] at ho';cases ho'
  exact⟨_,es',ep',hL,r'⟩) hok I.bare
theorem Inv.call {g':Array GenState}{t':Nat}{d':Drawn}{ch:List Addr}(I:Inv X aa σ H s) (u:Un (frs X.stack) ch H H' s.heap h') (hok:HOk X.prog X.w H' h') (hg:AllBare g')
  (hch:∀b∈ch,(b∈X.ex∨X.s₀.heap.objs.size≤b)∧b≠X.env.locals∧(∀x c,X.env.cells.lookup x=some c->c≠b)∧∀p∈X.pn++aa,p.1≠b) :
  Inv X aa σ H' { s with heap:=h',gens:=g',drawn:=d',toks:=t' }:=by
 obtain⟨m,⟨o,es,ep,ho,r⟩,_⟩:=id I.loc
 obtain⟨sl,hL⟩:=u.any ho I.free fun z=>(hch _ z).2.1 rfl
 exact I.step (ch:=ch) hch (fun b o hL hb hc e n=>u.keep b o e n (fun z=>(List.mem_cons.mp (I.stkSub b z)).elim hL hb) hc) (fun b o _ _ hc e n=>u.any e n hc) (fun b o hc e n=>u.free b o e n hc) (fun b o hc e=>u.there b o e hc) u.tups u.frzs u.tbls (fun m' hm=>by
  obtain⟨o',es',ep',ho',r'⟩:=hm
  rw[ho] at ho';cases ho'
  exact⟨_,es',ep',hL,r'⟩) hok hg
theorem Inv.turned {t':Nat}{it:Addr}(I:Inv X aa σ H s) (k:∀b o,b≠it->s.heap.get? b=some o->h'.get? b=some o) (hn:H it=none) (hL:it≠X.env.locals)
  (h1:it∈X.ex∨X.s₀.heap.objs.size≤it) (h2:∀x c,X.env.cells.lookup x=some c->c≠it) (h3:∀p∈X.pn++aa,p.1≠it):Inv X aa σ H { s with heap:=h',toks:=t' }:=by
 have nit:∀b u,H b=some u->b≠it:=fun b u e z=>by rw[z,hn] at e;cases e
 refine I.step (g':=s.gens) (d':=s.drawn) (ch:=[it]) (fun b hb=>?_) (fun b o _ _ hc e _=>k b o (fun z=>hc (by simp[z])) e) (fun b o _ _ hc e _=>⟨o.slots,k b o (fun z=>hc (by simp[z])) e⟩) (fun _ _ _ _ n=>n)
  (fun b o hc e=>⟨o,k b o (fun z=>hc (by simp[z])) e⟩) (fun _ _ e=>e) (fun _ _ _ e=>e) (fun b ps e=>⟨#[],by rw[e];simp⟩) (fun m hm=>?_) (fun b u e=>?_) I.bare
 ·have e:b=it:=by simpa using hb
  subst e
  exact⟨h1,hL,h2,h3⟩
 ·obtain⟨o,es,ep,ho,r⟩:=hm
  exact⟨o,es,ep,k _ o (Ne.symm hL) ho,r⟩
 ·refine(I.hok b u e).stay (fun c v hc q=>k c v ?_ q) (fun _ q=>q) fun _ _ q=>q
  rcases hc with z|z
  ·rw[z];exact nit b u e
  ·exact nit c _ z
theorem Inv.tok (I:Inv X aa σ H s) (t:Nat):Inv X aa σ H { s with toks:=t }:=I.un (h':=s.heap) (t':=t) Un.refl I.hok
theorem Inv.kept {t':Nat}(I:Inv X aa σ H s) (k:∀b u,s.heap.get? b=some u->h'.get? b=some u):Inv X aa σ H { s with heap:=h',toks:=t' }:=I.un (Un.kept k) (I.hok.kept k)
theorem Inv.laid {a:Addr}{o:HO}{t':Nat}(I:Inv X aa σ H s) (k:∀b u,s.heap.get? b=some u->h'.get? b=some u) (hp:s.heap.objs.size≤a) (new:bc X.prog X.w (upd H a o) h' a o) :
  Inv X aa σ (upd H a o) { s with heap:=h',toks:=t' }:=I.un (Un.laid k hp (I.hok.fresh hp)) (I.hok.laid k hp new)
theorem Inv.write {x e:Addr}{o:HO}{t':Nat}(I:Inv X aa σ H s) (mu:Mut (H x)) (he:e=x∨H e=some (.own x)) (k:∀b u,b≠e->s.heap.get? b=some u->h'.get? b=some u) (heo:∃u,h'.get? e=some u)
  (new:bc X.prog X.w (upd H x o) h' x o):Inv X aa σ (upd H x o) { s with heap:=h',toks:=t' }:=I.un (Un.write mu he k heo) (I.hok.write mu he k heo new)
theorem Inv.pins_of {pins':List (Addr×Obj)}(I:Inv X aa σ H s) (h:∀p∈pins',s.heap.get? p.1=some p.2∧H p.1=none∧p.1≠X.env.locals∧p.1∉X.fs∧∀v,p.2.data≠.cell v):Inv X pins' σ H s:=
 ⟨I.ok,I.os,I.bare,I.base,I.loc,I.cell,I.free,I.freeC,fun p hp=>(List.mem_append.mp hp).elim (fun z=>I.pin p (List.mem_append_left _ z)) (h p),I.hok,I.len⟩
theorem kH {N:List Str}(hN:N.Nodup) {i j:Nat}{x:Str}(a:N[i]?=some x) (b:N[j]?=some x):i=j:=by
 obtain⟨h1,e1⟩:=List.getElem?_eq_some_iff.mp a
 obtain⟨h2,e2⟩:=List.getElem?_eq_some_iff.mp b
 exact(List.getElem_inj hN).mp (e1.trans e2.symm)
theorem je {M:Model}{A:Around}{E:Value->Shared->Prop}{i:Nat}{x:Str}{v:V}{u:Value}{Q:Unit->Shared->Prop}(I:Inv X aa σ H s) (hN:X.N.Nodup) (hi:X.N[i]?=some x) (hx:Loc X.env.scope x) (r:aF v u)
  (h:∀s',Inv X aa (σ.set i (some v)) H s'->(∃a,Heap.SameBut a s.heap s'.heap∧(a=X.env.locals∨X.env.cells.lookup x=some a))->Q () s') (hf:X.fn x=true∨X.env.scope.names.lookup x=some .local :=by first|exact .inl rfl|exact .inr rfl|assumption):wpAny M A (storeName X.env x u) Q E s:=by
 obtain⟨m,hn,hl⟩:=id I.loc
 have hcls:(X.env.scope.kind==.class ||(X.env.scope.kind==.module&&X.env.locals != X.env.globals))=false:=by rw[I.ok.kind];rfl
 have hiσ:i<σ.length:=by rw[I.len];exact(List.getElem?_eq_some_iff.mp hi).1
 have cne:=I.cne
 have tracked:∀{a:Addr}{h':Heap},(∃o,s.heap.get? a=some o∧H a=none)->Heap.SameBut a s.heap h'->HOk X.prog X.w H h':=fun {a h'} ha hs b ob e=>by
  obtain⟨_,_,hfree⟩:=ha
  refine(I.hok b ob e).stay (fun c w' hc q=>(hs.2 c ?_).trans q) (fun _ q=>q) fun _ _ q=>q
  rintro rfl
  rcases hc with rfl|hc
  ·rw[hfree] at e;cases e
  ·rw[hfree] at hc;cases hc
 rcases hx with hk|hk
 ·refine wpAny_storeName_local hk hn (fun h' hn' hs=>?_) hcls
  obtain⟨oL,_,_,hoL,_⟩:=id hn
  refine h _ ⟨I.ok,I.os,I.bare,⟨fun b o e n hb hx=>?_,fun b o e n hb hx=>?_,I.base.free,fun b o e hx=>?_,I.base.tups,I.base.frzs,I.base.tbls⟩,⟨_,hn',fun j y v' e1 e2 e3=>?_⟩,fun y c e=>?_,I.free,I.freeC,fun p hp=>?_,tracked ⟨oL,hoL,I.free⟩ hs,by simpa using I.len⟩ ⟨_,hs,.inl rfl⟩
  ·exact(hs.2 b (Nat.ne_of_lt (Nat.lt_of_lt_of_le (Heap.lt_size e) I.ok.above))).trans (I.base.keep b o e n hb hx)
  ·obtain⟨sl,e1⟩:=I.base.slot b o e n hb hx
   exact⟨sl,(hs.2 b (Nat.ne_of_lt (Nat.lt_of_lt_of_le (Heap.lt_size e) I.ok.above))).trans e1⟩
  ·obtain⟨o',e1⟩:=I.base.there b o e hx
   exact⟨o',(hs.2 b (Nat.ne_of_lt (Nat.lt_of_lt_of_le (Heap.lt_size e) I.ok.above))).trans e1⟩
  ·by_cases hj:j=i
   ·subst hj
    rw[hi] at e1;cases e1
    rw[List.getElem?_set_self hiσ] at e2
    cases e2
    exact⟨u,r,.inl ⟨hk,by simp⟩⟩
   ·rw[List.getElem?_set_ne (Ne.symm hj)] at e2
    obtain⟨u',r',q⟩:=hl j y v' e1 e2 e3
    refine⟨u',r',?_⟩
    rcases q with⟨k,e⟩|⟨k,c,e,z⟩
    ·refine .inl ⟨k,?_⟩
     have:y≠x:=fun e=>hj (kH hN e1 (e▸hi))
     simp[this,e]
    ·exact .inr ⟨k,c,e,z.sameBut hs (cne y c e)⟩
  ·obtain⟨w',z⟩:=I.cell y c e
   exact⟨w',z.sameBut hs (cne y c e)⟩
  ·obtain⟨e,n,ne,nf,d⟩:=I.pin p hp
   exact⟨(hs.2 p.1 ne).trans e,n,ne,nf,d⟩
 ·have hfn:X.fn x=true:=by
   rcases hf with z|z
   ·exact z
   ·rw[z] at hk;cases hk
  obtain⟨c,hc⟩:=I.ok.has x (.inl hk)
  obtain⟨w',z⟩:=I.cell x c hc
  refine wpAny_storeName_cell I.ok.kind hk hc z (fun h' hc' hs=>?_)
  obtain⟨oc,hoc,hocd⟩:=id z
  refine h { s with heap:=h' } ⟨I.ok,I.os,I.bare,⟨fun b o e n hb hx=>?_,fun b o e n hb hx=>?_,I.base.free,fun b o e hx=>?_,I.base.tups,I.base.frzs,I.base.tbls⟩,⟨m,hn.sameBut hs (Ne.symm (cne x c hc)),fun j y v' e1 e2 e3=>?_⟩,fun y c' e=>?_,I.free,I.freeC,fun p hp=>?_,tracked ⟨oc,hoc,I.freeC x c hc⟩ hs,by simpa using I.len⟩ ⟨c,hs,.inr hc⟩
  ·exact(hs.2 b (Nat.ne_of_lt (Nat.lt_of_lt_of_le (Heap.lt_size e) (I.ok.cab x c hfn hc)))).trans (I.base.keep b o e n hb hx)
  ·obtain⟨sl,e1⟩:=I.base.slot b o e n hb hx
   exact⟨sl,(hs.2 b (Nat.ne_of_lt (Nat.lt_of_lt_of_le (Heap.lt_size e) (I.ok.cab x c hfn hc)))).trans e1⟩
  ·obtain⟨o',e1⟩:=I.base.there b o e hx
   exact⟨o',(hs.2 b (Nat.ne_of_lt (Nat.lt_of_lt_of_le (Heap.lt_size e) (I.ok.cab x c hfn hc)))).trans e1⟩
  ·by_cases hj:j=i
   ·subst hj
    rw[hi] at e1;cases e1
    rw[List.getElem?_set_self hiσ] at e2
    cases e2
    exact⟨u,r,.inr ⟨.inl hk,c,hc,hc'⟩⟩
   ·rw[List.getElem?_set_ne (Ne.symm hj)] at e2
    obtain⟨u',r',q⟩:=hl j y v' e1 e2 e3
    refine⟨u',r',?_⟩
    rcases q with q|⟨k,c',e,z'⟩
    ·exact .inl q
    ·refine .inr ⟨k,c',e,z'.sameBut hs ?_⟩
     rintro rfl
     exact hj (kH hN e1 (I.ok.inj _ _ _ e hc▸hi))
  ·by_cases hcc:c'=c
   ·subst hcc;exact⟨_,hc'⟩
   ·obtain⟨w2,z2⟩:=I.cell y c' e
    exact⟨w2,z2.sameBut hs hcc⟩
  ·obtain⟨e,n,ne,nf,d⟩:=I.pin p hp
   refine⟨(hs.2 p.1 ?_).trans e,n,ne,nf,d⟩
   intro q
   rw[q,hoc] at e
   have q':oc=p.2:=Option.some.inj e
   exact d w' (by rw[←q'];exact hocd)
theorem fg {M:Model}{A:Around}{E:Value->Shared->Prop}{i:Nat}{x:Str}{v:V}{u:Value}{Q:Unit->Shared->Prop}(I:Inv X aa σ H s) (hN:X.N.Nodup) (hi:X.N[i]?=some x) (hx:Loc X.env.scope x) (r:aF v u)
  (h:∀s',Inv X aa (σ.set i (some v)) H s'->Q () s') (hf:X.fn x=true∨X.env.scope.names.lookup x=some .local :=by first|exact .inl rfl|exact .inr rfl|assumption):wpAny M A (storeName X.env x u) Q E s:=
 je I hN hi hx r (fun s' I' _=>h s' I') hf
theorem Inv.call' {s':Shared}{ch:List Addr}(I:Inv X aa σ H s) (ho:s'.os=s.os) (u:Un (frs X.stack) ch H H' s.heap s'.heap) (hok:HOk X.prog X.w H' s'.heap) (hg:AllBare s'.gens)
  (hch:∀b∈ch,(b∈X.ex∨X.s₀.heap.objs.size≤b)∧b≠X.env.locals∧(∀x c,X.env.cells.lookup x=some c->c≠b)∧∀p∈X.pn++aa,p.1≠b):Inv X aa σ H' s':=by
 obtain⟨h',g',d',t',o'⟩:=s'
 have e:o'=s.os:=ho
 subst e
 exact I.call (g':=g') (t':=t') (d':=d') u hok hg hch
end
abbrev XK:=Value->Option Addr->Hp->Prop
abbrev St:=List (Option V)
abbrev VK:=V->Hp->Prop
abbrev TE:=St->Hp->VK->Prop
abbrev TT:=St->Hp->(Bool->Hp->Prop)->Prop
abbrev TA:=St->Hp->(List V->Hp->Prop)->Prop
structure Ends where
 nx:St->Hp->Prop
 rt:VK
 bk:St->Hp->Prop:=fun _ _=>False
 ct:St->Hp->Prop:=fun _ _=>False
abbrev TS:=Ends->St->Hp->Prop
def EP (X:Cx) (aa:List (Addr×Obj)) (σ:St) (Q:VK) (u:Value) (s':Shared):Prop:=∃v H',Inv X aa σ H' s'∧aF v u∧Q v H'
def TP (X:Cx) (aa:List (Addr×Obj)) (σ:St) (Q:Bool->Hp->Prop) (b:Bool) (s':Shared):Prop:=∃H',Inv X aa σ H' s'∧Q b H'
def AP (X:Cx) (aa:List (Addr×Obj)) (σ:St) (Q:List V->Hp->Prop) (us:List Value) (s':Shared):Prop:=∃vs H',Inv X aa σ H' s'∧az vs us∧Q vs H'
def SP (X:Cx) (aa:List (Addr×Obj)) (D:Ends) (f:Flow) (s':Shared):Prop:=
 match f with
 | .next=>∃σ' H',Inv X aa σ' H' s'∧D.nx σ' H'
 | .brk=>∃σ' H',Inv X aa σ' H' s'∧D.bk σ' H'
 | .cont=>∃σ' H',Inv X aa σ' H' s'∧D.ct σ' H'
 | .ret u=>∃v σ' H',Inv X aa σ' H' s'∧aF v u∧D.rt v H'
def PE (X:Cx) (e:Expr) (t:TE):Prop:=
 ∀(aa:List (Addr×Obj)) (s:Shared) (σ:St) (H:Hp) (Q:VK),Inv X aa σ H s->t σ H Q->wpAny (model X.prog X.w) X.A (eval e X.env) (EP X aa σ Q) X.xe s
def PT (X:Cx) (e:Expr) (t:TT):Prop:=
 ∀(aa:List (Addr×Obj)) (s:Shared) (σ:St) (H:Hp) (Q:Bool->Hp->Prop),Inv X aa σ H s->t σ H Q->wpAny (model X.prog X.w) X.A (isTrue e X.env (eval e X.env)) (TP X aa σ Q) X.xe s
def PW (X:Cx) (e:Expr) (t:TT):Prop:=
 ∀(whole:Sem Value) (aa:List (Addr×Obj)) (s:Shared) (σ:St) (H:Hp) (Q:Bool->Hp->Prop),Inv X aa σ H s->t σ H Q->wpAny (model X.prog X.w) X.A (isTrue e X.env whole) (TP X aa σ Q) X.xe s
theorem PW.pt {X:Cx}{e:Expr}{t:TT}(h:PW X e t):PT X e t:=h _
def PA (X:Cx) (es:List Expr) (t:TA):Prop:=
 ∀(pos:Pos) (aa:List (Addr×Obj)) (s:Shared) (σ:St) (H:Hp) (Q:List V->Hp->Prop),Inv X aa σ H s->t σ H Q->wpAny (model X.prog X.w) X.A (spliced (backTo pos (starEach es X.env))) (AP X aa σ Q) X.xe s
def PS (X:Cx) (st:Stmt) (t:TS):Prop:=
 ∀(aa:List (Addr×Obj)) (s:Shared) (σ:St) (H:Hp) (D:Ends),Inv X aa σ H s->t D σ H->wpAny (model X.prog X.w) X.A (exec st X.env) (SP X aa D) X.xe s
def PSs (X:Cx) (st:List Stmt) (t:TS):Prop:=
 ∀(aa:List (Addr×Obj)) (s:Shared) (σ:St) (H:Hp) (D:Ends),Inv X aa σ H s->t D σ H->wpAny (model X.prog X.w) X.A (execs st X.env) (SP X aa D) X.xe s
theorem thn {α:Type}{t:Sem α}{Q Q':α->Shared->Prop}{M:Model}{A:Around}{E:Value->Shared->Prop}{s:Shared}(h:wpAny M A t Q E s) (hQ:∀a s,Q a s->Q' a s):wpAny M A t Q' E s:=wpAny_mono h hQ fun _ _ x=>x
end L2
namespace L2
open PySem PySem.Spec PyProof.Rows
section
variable {X:Cx}
def sK (i:Nat):TE:=fun σ H Q=>∃v,σ[i]?=some (some v)∧Q v H
def tC (v:V):TE:=fun _ H Q=>Q v H
theorem Ac {i:Nat}{x:Str}{pos:Pos}(hN:X.N[i]?=some x) (hv:Vis X.env.scope x) (hd:(x==("__debug__":Str))=false:=by decide) (hcd:(x==("__classdict__":Str))=false:=by decide):PE X (.Name x pos) (sK i):=by
 intro aa s σ H Q I h
 obtain⟨v,e,h⟩:=h
 obtain⟨m,hn,hl⟩:=I.loc
 obtain⟨u,r,l⟩:=hl i x v hN e hv
 have fin:EP X aa σ Q u s:=⟨v,H,I,r,h⟩
 rcases l with⟨hk,hm⟩|⟨hk,c,hc,hcell⟩
 ·exact wpAny_Name (wpAny_loadName_local I.ok.kind hk hn hm fin) hd
 ·rcases hk with hk|hk
  ·exact wpAny_Name (wpAny_loadName_cell I.ok.kind hk hc hcell fin) hd
  ·exact wpAny_Name (wpAny_loadName_free I.ok.kind hk hc hcell fin hcd) hd
theorem ak {i j pos}:PE X (.Constant (.int i) j pos) (tC (.int i)):=fun _ _ _ H _ I h=>wpAny_Constant_int ⟨.int i,H,I.tok _,⟨_,rfl⟩,h⟩
theorem ix {b j pos}:PE X (.Constant (.bool b) j pos) (tC (.bl b)):=fun _ _ _ H _ I h=>Constant_bool ⟨.bl b,H,I,rfl,h⟩
theorem fL {j pos}:PE X (.Constant .none j pos) (tC .non):=fun _ _ _ H _ I h=>Constant_none ⟨.non,H,I,rfl,h⟩
theorem bJ {x j pos}:PE X (.Constant (.str x) j pos) (tC (.str x)):=fun _ _ _ H _ I h=>Calls.Constant_str ⟨.str x,H,I.tok _,⟨_,rfl⟩,h⟩
def Gl (X:Cx) (x:Str):Prop:=X.env.kindOf x=some .globalImplicit
theorem gS {E:Value->Shared->Prop}{aa:List (Addr×Obj)}{s:Shared}{σ:St}{H:Hp}{x:Str}{u:Value}{pos:Pos}{Q:Value->Shared->Prop}(I:Inv X aa σ H s) (hg:Gl X x) (hm:X.mg x=some u) (h:Q u s)
  (hd:(x==("__debug__":Str))=false:=by decide):wpAny (model X.prog X.w) X.A (eval (.Name x pos) X.env) Q E s:=
 Calls.Name_function_global I.ok.kind hg (Calls.loadGlobal_global (by rw[I.ok.glob];exact I.mod.glob.keeps I.bk) hm h) hd
theorem lc {E:Value->Shared->Prop}{aa:List (Addr×Obj)}{s:Shared}{σ:St}{H:Hp}{x:Str}{u:Value}{pos:Pos}{Q:Value->Shared->Prop}(I:Inv X aa σ H s) (hg:Gl X x) (hm:X.mg x=none) (hv:bootBuiltins x=some u) (h:Q u s)
  (hn:x≠"__name__":=by decide) (hd:(x==("__debug__":Str))=false:=by decide):wpAny (model X.prog X.w) X.A (eval (.Name x pos) X.env) Q E s:=by
 obtain⟨mb,h1,h2⟩:=I.mod.blt
 exact Calls.Name_function_global I.ok.kind hg (Calls.loadGlobal_builtin (by rw[I.ok.glob];exact I.mod.glob.keeps I.bk) hm (by rw[I.ok.blt];exact h1.keeps I.bk) ((h2 x hn).trans hv) h) hd
theorem bH {x:Str}{v:V}{u:Value}{pos:Pos}(hg:Gl X x) (hm:X.mg x=some u) (r:aF v u) (hd:(x==("__debug__":Str))=false:=by decide):PE X (.Name x pos) (tC v):=
 fun _ _ _ H _ I h=>gS I hg hm ⟨v,H,I,r,h⟩ hd
theorem eT {x:Str}{v:V}{u:Value}{pos:Pos}(hg:Gl X x) (hm:X.mg x=none) (hv:bootBuiltins x=some u) (r:aF v u) (hn:x≠"__name__":=by decide) (hd:(x==("__debug__":Str))=false:=by decide):PE X (.Name x pos) (tC v):=
 fun _ _ _ H _ I h=>lc I hg hm hv ⟨v,H,I,r,h⟩ hn hd
variable {a b:Expr}{ta tb:TE}{pos:Pos}
def PC (X:Cx) (op:CmpOp) (a b:Expr) (t:TE):Prop:=
 ∀(aa:List (Addr×Obj)) (s:Shared) (σ:St) (H:Hp) (Q:VK),Inv X aa σ H s->t σ H Q->
  wpAny (model X.prog X.w) X.A (eval a X.env) (fun v s₁=>wpAny (model X.prog X.w) X.A (eval b X.env) (fun u s₂=>wpAny (model X.prog X.w) X.A (compareOp op v u) (EP X aa σ Q) X.xe s₂) X.xe s₁) X.xe s
def tB (t:TE):TT:=fun σ H Q=>t σ H fun x H1=>∃c,x=.bl c∧Q c H1
theorem uB {op:CmpOp}{t:TE}(h:PC X op a b t) (h1:behindInMarks op b=false:=by first|exact nobehind _ (by decide) (by decide)|rfl):PT X (.Compare a [op] [b] pos) (tB t):=by
 intro aa s σ H Q I hw
 refine wpAny_isTrue_Compare1 (thn (h aa s σ H _ I hw) fun v s1 h1=>thn h1 fun u s2 h2=>thn h2 fun c s3 ⟨x,H1,I1,r1,q1⟩=>?_) h1
 obtain⟨d,rfl,q⟩:=q1
 cases r1
 exact wpAny_truthy_bool ⟨H1,I1,q⟩
theorem dg {e:Expr}{t:TE}(h:PE X e t) (he:∀whole,isTrue e X.env whole=(do let v ←whole;standAt e.pos;holding [v] (truthy v)):=by intro _;rfl):PT X e (tB t):=by
 intro aa s σ H Q I hw
 refine isTrue_plain (thn (h aa s σ H _ I hw) fun v s1 ⟨x,H1,I1,r1,q1⟩=>?_) (he _)
 obtain⟨d,rfl,q⟩:=q1
 cases r1
 exact wpAny_truthy_bool ⟨H1,I1,q⟩
variable {tA tB':TT}{rest:List Expr}
def Em (t u:TT):TT:=fun σ H Q=>t σ H fun c H1=>if c=true then u σ H1 Q else Q false H1
def tOr (t u:TT):TT:=fun σ H Q=>t σ H fun c H1=>if c=true then Q true H1 else u σ H1 Q
def En (t:TT):TT:=fun σ H Q=>t σ H fun c H1=>Q (!c) H1
theorem yF (ha:PT X a tA):PW X (.BoolOp .And [a] pos) tA:=by
 intro wh aa s σ H Q I h
 refine isTrue_and (thn (ha aa s σ H Q I h) fun c s1 e=>?_)
 cases c with
 | true=>exact isTrue_and_nil e
 | false=>exact e
theorem eZ (ha:PT X a tA):PW X (.BoolOp .Or [a] pos) tA:=by
 intro wh aa s σ H Q I h
 refine isTrue_or (thn (ha aa s σ H Q I h) fun c s1 e=>?_)
 cases c with
 | false=>exact isTrue_or_nil e
 | true=>exact e
theorem Ad (ha:PT X a tA) (hb:PW X (.BoolOp .And (b::rest) pos) tB'):PW X (.BoolOp .And (a::b::rest) pos) (Em tA tB'):=by
 intro wh aa s σ H Q I h
 refine isTrue_and (thn (ha aa s σ H _ I h) fun c s1 ⟨H1,I1,q1⟩=>?_)
 cases c with
 | true=>exact hb wh aa s1 σ H1 Q I1 q1
 | false=>exact⟨H1,I1,q1⟩
theorem fW (ha:PT X a tA) (hb:PW X (.BoolOp .Or (b::rest) pos) tB'):PW X (.BoolOp .Or (a::b::rest) pos) (tOr tA tB'):=by
 intro wh aa s σ H Q I h
 refine isTrue_or (thn (ha aa s σ H _ I h) fun c s1 ⟨H1,I1,q1⟩=>?_)
 cases c with
 | true=>exact⟨H1,I1,q1⟩
 | false=>exact hb wh aa s1 σ H1 Q I1 q1
theorem cq (ha:PT X a tA):PT X (.UnaryOp .Not a pos) (En tA):=by
 intro aa s σ H Q I h
 exact isTrue_not (ha aa s σ H (fun c H1=>Q (!c) H1) I h)
def Dg (ta tb:TE):TE:=fun σ H Q=>ta σ H fun x H1=>∃c,x=.bl c∧if c=true then tb σ H1 Q else Q (.bl false) H1
def Dh (ta:TE):TE:=fun σ H Q=>ta σ H fun x H1=>∃c,x=.bl c∧Q (.bl (!c)) H1
theorem lg {op}{t:TE}(h:PE X a t):PE X (.BoolOp op [a] pos) t:=fun aa s σ H Q I hw=>BoolOp_one (h aa s σ H Q I hw)
theorem gU (ha:PE X a ta) (hb:PE X (.BoolOp .And (b::rest) pos) tb):PE X (.BoolOp .And (a::b::rest) pos) (Dg ta tb):=by
 intro aa s σ H Q I h
 refine BoolOp_and (thn (ha aa s σ H _ I h) fun v s1 ⟨x,H1,I1,r1,q1⟩=>?_)
 obtain⟨c,rfl,q1⟩:=q1
 cases r1
 refine wpAny_truthy_bool ?_
 cases c with
 | true=>exact hb aa s1 σ H1 Q I1 q1
 | false=>exact⟨.bl false,H1,I1,rfl,q1⟩
theorem Ae (ha:PE X a ta):PE X (.UnaryOp .Not a pos) (Dh ta):=by
 intro aa s σ H Q I h
 refine UnaryOp_ (thn (ha aa s σ H _ I h) fun v s1 ⟨x,H1,I1,r1,q1⟩=>?_)
 obtain⟨c,rfl,q1⟩:=q1
 cases r1
 exact not_of (wpAny_truthy_bool ⟨.bl (!c),H1,I1,rfl,q1⟩)
def tIf (t:TT) (ta tb:TE):TE:=fun σ H Q=>t σ H fun c H1=>if c=true then ta σ H1 Q else tb σ H1 Q
theorem wq {c:Expr}(hc:PT X c tA) (ha:PE X a ta) (hb:PE X b tb):PE X (.IfExp c a b pos) (tIf tA ta tb):=by
 intro aa s σ H Q I h
 refine wpAny_IfExp (thn (hc aa s σ H _ I h) fun d s1 ⟨H1,I1,q1⟩=>?_)
 cases d with
 | true=>exact ha aa s1 σ H1 Q I1 q1
 | false=>exact hb aa s1 σ H1 Q I1 q1
end
end L2
namespace L2
open PySem PySem.Spec PyProof.Rows
def SqL (K:W.Frag) (H:Hp) (a:Addr) (xs:List V):Prop:=
 Rd H a (.lst xs)∨
  ∃(o:Obj) (its:Array Value) (n:Nat),K.lookup a=some o∧o.cls=.type "list"∧o.dict=none∧o.data=.seq its n∧its.size≤sizeLine∧az xs its.toList
def SqT (K:W.Frag) (H:Hp) (a:Addr) (xs:List V):Prop:=
 Rd H a (.tup xs)∨
  ∃(o:Obj) (its:Array Value) (n:Nat),K.lookup a=some o∧o.cls=.type "tuple"∧o.data=.seq its n∧its.size≤sizeLine∧az xs its.toList
def Eo:Value->Option V
 | .none=>some .non
 | .bool b=>some (.bl b)
 | .int i _=>some (.int i)
 | .str x _=>some (.str x)
 | .bytes b _=>some (.byt b)
 | .float b _=>some (.flt b)
 | .ref a=>some (.ref a)
 | .type n=>some (.ty n)
 | _=>none
theorem aF.abs {x:V}{u:Value}(r:aF x u):Eo u=some x:=by
 cases x with
 | non=>cases r;rfl
 | bl _=>cases r;rfl
 | int _=>obtain⟨t,rfl⟩:=r;rfl
 | str _=>obtain⟨t,rfl⟩:=r;rfl
 | byt _=>obtain⟨t,rfl⟩:=r;rfl
 | flt _=>obtain⟨t,rfl⟩:=r;rfl
 | ref _=>cases r;rfl
 | ty _=>cases r;rfl
theorem aF.inj {x y:V}{u:Value}(r:aF x u) (q:aF y u):x=y:=Option.some.inj (r.abs.symm.trans q.abs)
theorem az.inj:∀{xs ys:List V}{us:List Value},az xs us->az ys us->xs=ys
 | _,_,_,.nil,.nil=>rfl
 | _,_,_,.cons r t,.cons r' t'=>by rw[r.inj r',az.inj t t']
section
variable {X:Cx}{aa:List (Addr×Obj)}{σ:St}{H:Hp}{s:Shared}{a:Addr}{xs ys:List V}
theorem SqL.of {K:W.Frag}(h:H a=some (.lst xs)):SqL K H a xs:=.inl (.inl h)
theorem SqT.of {K:W.Frag}(h:H a=some (.tup xs)):SqT K H a xs:=.inl (.inl h)
theorem Inv.list (I:Inv X aa σ H s) (h:SqL X.K H a xs):∃its:List Value,az xs its∧PlainL s.heap a its.toArray∧xs.length≤sizeLine:=by
 rcases h with h|⟨o,its,n,hk,hc,hd,hs,hz,r⟩
 ·obtain⟨z,its,n,r,e⟩:=h.ok I.hok
  exact⟨its,r,⟨_,n,e,rfl,rfl,rfl⟩,z⟩
 ·refine⟨its.toList,r,⟨o,n,I.kIn a o hk,hc,hd,by simpa using hs⟩,?_⟩
  have e:=r.length
  simp only[Array.length_toList] at e
  omega
theorem Inv.tuple (I:Inv X aa σ H s) (h:SqT X.K H a xs):∃its:List Value,az xs its∧IsTup s.heap a its.toArray∧xs.length≤sizeLine:=by
 rcases h with h|⟨o,its,n,hk,hc,hs,hz,r⟩
 ·obtain⟨z,its,r,p⟩:=h.ok I.hok
  exact⟨its,r,p,z⟩
 ·refine⟨its.toList,r,⟨o,I.kIn a o hk,hc,n,by simpa using hs⟩,?_⟩
  have e:=r.length
  simp only[Array.length_toList] at e
  omega
theorem Inv.list_inj (I:Inv X aa σ H s) (h:SqL X.K H a xs) (h':SqL X.K H a ys):xs=ys:=by
 obtain⟨its,r,⟨o,n,e,_,_,d⟩,_⟩:=I.list h
 obtain⟨its',r',⟨o',n',e',_,_,d'⟩,_⟩:=I.list h'
 rw[e] at e';cases e'
 rw[d] at d'
 injection d' with d1 _
 have:its=its':=by simpa using congrArg Array.toList d1
 subst this
 exact r.inj r'
theorem Inv.tuple_inj (I:Inv X aa σ H s) (h:SqT X.K H a xs) (h':SqT X.K H a ys):xs=ys:=by
 obtain⟨its,r,⟨o,e,_,n,d⟩,_⟩:=I.tuple h
 obtain⟨its',r',⟨o',e',_,n',d'⟩,_⟩:=I.tuple h'
 rw[e] at e';cases e'
 rw[d] at d'
 injection d' with d1 _
 have:its=its':=by simpa using congrArg Array.toList d1
 subst this
 exact r.inj r'
end
abbrev Cx.wish (X:Cx) (E:Value->Shared->Prop):Cx:={ X with xe:=E }
abbrev Cx.nox (X:Cx):Cx:=X.wish fun _ _=>False
theorem Cx.Ok.wish {X:Cx}(ok:X.Ok) (E:Value->Shared->Prop):(X.wish E).Ok:=
 ⟨ok.mod,ok.kind,ok.glob,ok.blt,ok.above,ok.inj,ok.has,ok.cab,ok.hd,ok.frames,ok.stk,ok.exf,ok.bs,ok.bsz,ok.noex,ok.exfs,ok.funs,ok.frf⟩
theorem Cx.Ok.unwish {X:Cx}{E:Value->Shared->Prop}(ok:(X.wish E).Ok):X.Ok:=
 ⟨ok.mod,ok.kind,ok.glob,ok.blt,ok.above,ok.inj,ok.has,ok.cab,ok.hd,ok.frames,ok.stk,ok.exf,ok.bs,ok.bsz,ok.noex,ok.exfs,ok.funs,ok.frf⟩
section
variable {X:Cx}{aa:List (Addr×Obj)}{σ:St}{H:Hp}{s:Shared}{E:Value->Shared->Prop}
theorem Inv.wish (I:Inv X aa σ H s) (E:Value->Shared->Prop):Inv (X.wish E) aa σ H s:=⟨I.ok.wish E,I.os,I.bare,I.base,I.loc,I.cell,I.free,I.freeC,I.pin,I.hok,I.len⟩
theorem Inv.unwish (I:Inv (X.wish E) aa σ H s):Inv X aa σ H s:=⟨I.ok.unwish,I.os,I.bare,I.base,I.loc,I.cell,I.free,I.freeC,I.pin,I.hok,I.len⟩
theorem SP.unwish {D:Ends}{f:Flow}{s':Shared}(h:SP (X.wish E) aa D f s'):SP X aa D f s':=by
 cases f with
 | next=>obtain⟨σ',H',I,q⟩:=h;exact⟨σ',H',I.unwish,q⟩
 | brk=>obtain⟨σ',H',I,q⟩:=h;exact⟨σ',H',I.unwish,q⟩
 | cont=>obtain⟨σ',H',I,q⟩:=h;exact⟨σ',H',I.unwish,q⟩
 | ret u=>obtain⟨v,σ',H',I,r,q⟩:=h;exact⟨v,σ',H',I.unwish,r,q⟩
theorem PSs.nox {st:List Stmt}{t:TS}(h:PSs X.nox st t):PSs X st t:=fun aa s σ H D I hw=>
 wpAny_mono (h aa s σ H D (I.wish _) hw) (fun _ _ q=>q.unwish) fun _ _ z=>False.elim z
end
section
variable {X:Cx}{st:Stmt}{rest:List Stmt}{t u:TS}{e:Expr}{te:TE}{pos:Pos}
def Di:TS:=fun D σ H=>D.nx σ H
def Ep (t u:TS):TS:=fun D σ H=>t { D with nx:=u D } σ H
theorem ax:PSs X [] Di:=fun _ _ σ H _ I h=>wpAny_execs_nil ⟨σ,H,I,h⟩
theorem ai (h1:PS X st t) (h2:PSs X rest u):PSs X (st::rest) (Ep t u):=by
 intro aa s σ H D I h
 refine wpAny_execs_cons (thn (h1 aa s σ H { D with nx:=u D } I h) fun f s1 q=>?_)
 cases f with
 | next=>
  obtain⟨σ',H',I',q⟩:=q
  exact h2 aa s1 σ' H' D I' q
 | ret v=>exact q
 | brk=>exact q
 | cont=>exact q
theorem am (h1:PS X st t):PSs X [st] t:=by
 intro aa s σ H D I h
 refine wpAny_execs_cons (thn (h1 aa s σ H D I h) fun f s1 q=>?_)
 cases f with
 | next=>exact wpAny_execs_nil q
 | ret v=>exact q
 | brk=>exact q
 | cont=>exact q
theorem Inv.quiet {aa:List (Addr×Obj)}{σ:St}{H:Hp}{s:Shared}(I:Inv X aa σ H s):interactive X.env=false:=by simp[interactive,I.ok.kind]
def Dj (te:TE):TS:=fun D σ H=>te σ H fun _ H1=>D.nx σ H1
theorem br (he:PE X e te) (hs:swapsWith e none pos.line X.env=pure false:=by rfl):PS X (.Expr e pos) (Dj te):=by
 intro aa s σ H D I h
 exact wpAny_Expr_any (thn (he aa s σ H _ I h) fun v s1 ⟨x,H1,I1,r1,q1⟩=>⟨σ,H1,I1,q1⟩) I.quiet hs
def Er (te:TE):TS:=fun D σ H=>te σ H D.rt
theorem aH (he:PE X e te):PS X (.Return (some e) pos) (Er te):=by
 intro aa s σ H D I h
 exact wpAny_Return_some (thn (he aa s σ H _ I h) fun v s1 ⟨x,H1,I1,r1,q1⟩=>⟨x,σ,H1,I1,r1,q1⟩)
def Dl:TS:=fun D _ H=>D.rt .non H
theorem mj:PS X (.Return none pos) Dl:=fun _ _ σ H _ I h=>wpAny_Return_none ⟨.non,σ,H,I,rfl,h⟩
def Es (c:TT) (t u:TS):TS:=fun D σ H=>c σ H fun b H1=>if b=true then t D σ H1 else u D σ H1
theorem aK {c:Expr}{a b:List Stmt}{tc:TT}(hc:PT X c tc) (ha:PSs X a t) (hb:PSs X b u):PS X (.If c a b pos) (Es tc t u):=by
 intro aa s σ H D I h
 refine wpAny_If (thn (hc aa s σ H _ I h) fun d s1 ⟨H1,I1,q1⟩=>?_)
 cases d with
 | true=>exact ha aa s1 σ H1 D I1 q1
 | false=>exact hb aa s1 σ H1 D I1 q1
def Af:TS:=fun _ _ _=>False
theorem aL:PS X st Af:=fun _ _ _ _ _ _ h=>h.elim
end
abbrev TG:=V->St->Hp->(St->Hp->Prop)->Prop
abbrev TGs:=List V->St->Hp->(St->Hp->Prop)->Prop
def PG (X:Cx) (target:Expr) (t:TG):Prop:=
 ∀(aa:List (Addr×Obj)) (s:Shared) (σ:St) (H:Hp) (v:V) (u:Value) (Q:St->Hp->Prop),Inv X aa σ H s->aF v u->t v σ H Q->
  wpAny (model X.prog X.w) X.A (assign target X.env u) (fun _ s'=>∃σ' H',Inv X aa σ' H' s'∧Q σ' H') X.xe s
def PGs (X:Cx) (ts:List Expr) (t:TGs):Prop:=
 ∀(aa:List (Addr×Obj)) (s:Shared) (σ:St) (H:Hp) (vs:List V) (us:List Value) (Q:St->Hp->Prop),Inv X aa σ H s->az vs us->t vs σ H Q->
  wpAny (model X.prog X.w) X.A (assignInOrder ((assignEach ts X.env).map (·.2)) us) (fun _ s'=>∃σ' H',Inv X aa σ' H' s'∧Q σ' H') X.xe s
section
variable {X:Cx}{pos:Pos}
def om (i:Nat):TG:=fun v σ H Q=>Q (σ.set i (some v)) H
theorem bA {i:Nat}{x:Str}(hN:X.N.Nodup) (hi:X.N[i]?=some x) (hx:Loc X.env.scope x) (hf:X.fn x=true∨X.env.scope.names.lookup x=some .local :=by first|exact .inl rfl|exact .inr rfl|assumption):PG X (.Name x pos) (om i):=by
 intro aa s σ H v u Q I r h
 exact wpAny_assign_Name (fg I hN hi hx r (fun s' I'=>⟨_,H,I',h⟩) hf)
def Et:TGs:=fun vs σ H Q=>vs=[]∧Q σ H
def Dm (t:TG) (u:TGs):TGs:=fun vs σ H Q=>∃v r,vs=v::r∧t v σ H fun σ' H'=>u r σ' H' Q
theorem jN:PGs X [] Et:=by
 intro aa s σ H vs us Q I r h
 obtain⟨e,h⟩:=h
 subst e
 cases r
 exact assignInOrder_nil ⟨σ,H,I,h⟩
theorem cP {e:Expr}{es:List Expr}{t:TG}{u:TGs}(h1:PG X e t) (h2:PGs X es u)
  (hs:(assignEach (e::es) X.env).map (·.2)=assign e X.env::(assignEach es X.env).map (·.2):=by rfl):PGs X (e::es) (Dm t u):=by
 intro aa s σ H vs us Q I r h
 obtain⟨v,vr,e1,h⟩:=h
 subst e1
 cases r with
 | cons r rr=>
  rw[hs]
  refine assignInOrder_cons (thn (h1 aa s σ H _ _ _ I r h) fun _ s1 ⟨σ1,H1,I1,q1⟩=>?_)
  exact h2 aa s1 σ1 H1 _ _ Q I1 rr q1
def Eu (K:W.Frag) (n:Nat) (t:TGs):TG:=fun v σ H Q=>∃a xs,v=.ref a∧SqT K H a xs∧xs.length=n∧t xs σ H Q
theorem lh {es:List Expr}{k:Nat}{t:TGs}{n:Nat}(hc:X.calm=true) (h:PGs X es t)
  (hn:(assignEach es X.env).length=n:=by rfl) (hst:(assignEach es X.env).findIdx? (·.1)=none:=by rfl):PG X (.Tuple es k pos) (Eu X.K n t):=by
 intro aa s σ H v u Q I r hw
 obtain⟨a,xs,e1,hq,hl,hw⟩:=hw
 subst e1
 cases r
 obtain⟨its,rv,ht,hz⟩:=I.tuple hq
 refine assign_Tuple_tuple (I.ok.hd hc) ht (by simp[hn,←hl,rv.length]) hst fun h' hx=>?_
 have I1:Inv X aa σ H { s with heap:=h' }:=I.kept (t':=s.toks) fun b o e=>hx b o (Nat.ne_of_lt (Heap.lt_size e)) e
 exact h aa _ σ H xs _ Q I1 (by simpa using rv) hw
def sL (te:TE) (g:TG):TS:=fun D σ H=>te σ H fun x H1=>g x σ H1 D.nx
theorem oJ {tg e:Expr}{te:TE}{g:TG}(he:PE X e te) (hg:PG X tg g) (hs:swapsWithSole [tg] e pos.line X.env=pure false:=by rfl) (hw:swappedStores [tg] e X.env=pure none:=by rfl)
  (h1:(assignEach [tg] X.env).map (·.2)=[assign tg X.env]:=by rfl):PS X (.Assign [tg] e pos) (sL te g):=by
 intro aa s σ H D I h
 refine wpAny_Assign_stores (thn (he aa s σ H _ I h) fun v s1 ⟨x,H1,I1,r1,q1⟩=>?_) hs hw
 rw[h1]
 exact thn (hg aa s1 σ H1 x v _ I1 r1 q1) fun _ s2 q=>q
theorem aI {i:Nat}{x:Str}{e:Expr}{te:TE}{pos':Pos}(hN:X.N.Nodup) (hi:X.N[i]?=some x) (hx:Loc X.env.scope x) (he:PE X e te) (hs:swapsWith e (some (.Name x pos')) pos.line X.env=pure false:=by rfl) (hf:X.fn x=true∨X.env.scope.names.lookup x=some .local :=by first|exact .inl rfl|exact .inr rfl|assumption) :
  PS X (.Assign [.Name x pos'] e pos) (sL te (om i)):=by
 intro aa s σ H D I h
 refine wpAny_Assign_Name (thn (he aa s σ H _ I h) fun v s1 ⟨y,H1,I1,r1,q1⟩=>?_) hs
 exact fg I1 hN hi hx r1 (fun s2 I2=>⟨_,H1,I2,q1⟩) hf
end
section
variable {X:Cx}{pos:Pos}
end
structure It where
 go:Nat->Hp->Prop
 yld:Nat->Hp->V->Hp->Prop
 stop:Nat->Hp->Prop
def fh (X:Cx) (aa:List (Addr×Obj)) (H:Hp) (b:Addr):Prop:=
 H b=none∧b≠X.env.locals∧b∉X.fs∧(b∈X.ex∨X.s₀.heap.objs.size≤b)∧(∀x c,X.env.cells.lookup x=some c->c≠b)∧∀p∈X.pn++aa,p.1≠b
theorem Inv.fpOk {X:Cx}{aa:List (Addr×Obj)}{σ:St}{H H':Hp}{s:Shared}{b:Addr}(I:Inv X aa σ H s) (hb:s.heap.objs.size≤b) (hn:H' b=none):fh X aa H' b:=by
 refine⟨hn,Nat.ne_of_gt (Nat.lt_of_lt_of_le I.lt hb),I.nofs hb,.inr (Nat.le_trans I.sz hb),fun x c e z=>?_,fun p hp z=>?_⟩
 ·obtain⟨v,q⟩:=I.cell x c e
  exact absurd (Nat.lt_of_lt_of_le q.lt (by rw[z];exact hb)) (Nat.lt_irrefl _)
 ·exact absurd (Nat.lt_of_lt_of_le (Heap.lt_size (I.pin p hp).1) (by rw[z];exact hb)) (Nat.lt_irrefl _)
structure Turn (P:Program) (w:World) (K:W.Frag) (tg:Expr) (J:It) (fp:List Addr) (it:Addr) (tn:Nat->Heap->Prop):Prop where
 mem:it∈fp
 obj:∀i h,tn i h->∀b∈fp,∃o,h.get? b=some o∧∀v,o.data≠.cell v
 keep:∀i h h',tn i h->(∀b∈fp,∀o,h.get? b=some o->h'.get? b=some o)->tn i h'
 item:∀(X:Cx),X.prog=P->X.w=w->X.K=K->X.calm=true->∀(i:Nat) (aa:List (Addr×Obj)) (s:Shared) (σ:St) (H:Hp) (E:Value->Shared->Prop),Inv X aa σ H s->(∀b∈fp,fh X aa H b)->tn i s.heap->J.go i H->
  wpAny (model P w) X.A (pyNext (.ref it)) (fun r s1=>∃u,r=some u∧
   wpAny (model P w) X.A (letOwnedTupleGo tg (.ref it) u) (fun _ s2=>∃x H',Inv X aa σ H' s2∧aF x u∧J.yld i H x H'∧tn (i+1) s2.heap∧∀b∈fp,H' b=none) E s1) E s
 done:∀(X:Cx),X.prog=P->X.w=w->X.K=K->X.calm=true->∀(i:Nat) (aa:List (Addr×Obj)) (s:Shared) (σ:St) (H:Hp) (E:Value->Shared->Prop),Inv X aa σ H s->(∀b∈fp,fh X aa H b)->tn i s.heap->J.stop i H->
  wpAny (model P w) X.A (pyNext (.ref it)) (fun r s1=>r=none∧Inv X aa σ H s1) E s
 self:∀(A:Around) (i:Nat) (s:Shared) (Q:Value->Shared->Prop) (E:Value->Shared->Prop),tn i s.heap->Q (.ref it) s->wpAny (model P w) A (pyIter (.ref it)) Q E s
abbrev TI:=St->Hp->(It->Hp->Prop)->Prop
def PIE (X:Cx) (aa:List (Addr×Obj)) (σ:St) (tg:Expr) (R:It->Hp->Prop) (itv:Value) (s2:Shared):Prop:=
 ∃(it:Addr) (fp:List Addr) (tn:Nat->Heap->Prop) (J:It) (H':Hp),itv=.ref it∧Inv X aa σ H' s2∧Turn X.prog X.w X.K tg J fp it tn∧tn 0 s2.heap∧(∀b∈fp,fh X aa H' b)∧R J H'
def PI (X:Cx) (tg iter:Expr) (wi:TI):Prop:=
 ∀(aa:List (Addr×Obj)) (s:Shared) (σ:St) (H:Hp) (R:It->Hp->Prop),Inv X aa σ H s->wi σ H R->
  wpAny (model X.prog X.w) X.A (eval iter X.env) (fun v s1=>wpAny (model X.prog X.w) X.A (pyIter v) (PIE X aa σ tg R) X.xe s1) X.xe s
theorem oo {M:Model}{A:Around}{E:Value->Shared->Prop}{s:Shared}{tg:Expr}{it:Addr}{u:Value}{o:Obj}{n:String}{vs:Array Value}{Q:Unit->Shared->Prop}(ho:s.heap.get? it=some o) (hc:o.cls=.type n) (hd:o.data=.fields vs)
  (hn:["enumerate","zip","dict_itemiterator","dict_reverseitemiterator","odict_iterator","itertools.zip_longest","itertools.pairwise"].contains n=false) (hQ:Q () s):wpAny M A (letOwnedTupleGo tg (.ref it) u) Q E s:=by
 unfold letOwnedTupleGo
 cases tg <;> first
  | exact wpAny_pure hQ
  | (cases u <;> first
    | exact wpAny_pure hQ
    | (refine wpAny_bind (wpAny_load ho ?_);rw[hc,hd];show wpAny M A (if (["enumerate","zip","dict_itemiterator","dict_reverseitemiterator","odict_iterator","itertools.zip_longest","itertools.pairwise"].contains n&&vs[0]?==some (rawInt _))=true then _ else _) Q E s;rw[if_neg (by intro h;rw[hn,Bool.false_and] at h;cases h)];exact wpAny_pure hQ))
def Itl (K:W.Frag) (a:Addr):It:=
 ⟨fun i H=>∃xs x,SqL K H a xs∧xs[i]?=some x,fun i H x H'=>H'=H∧∀xs,SqL K H a xs->xs[i]?=some x,fun i H=>∃xs,SqL K H a xs∧xs.length≤i⟩
def Itt (K:W.Frag) (a:Addr):It:=
 ⟨fun i H=>∃xs x,SqT K H a xs∧xs[i]?=some x,fun i H x H'=>H'=H∧∀xs,SqT K H a xs->xs[i]?=some x,fun i H=>∃xs,SqT K H a xs∧xs.length≤i⟩
def Itr (lo:Int) (n:Nat):It:=⟨fun i _=>i<n,fun i H x H'=>H'=H∧x=.int (lo+i),fun i _=>n≤i⟩
theorem uC {P:Program}{w:World}{K:W.Frag}{tg:Expr}(a it:Addr):Turn P w K tg (Itl K a) [it] it (fun i h=>h.IsListIter it a i) where
 mem:=by simp
 obj:=fun i h st b hb=>by
  have e:b=it:=by simpa using hb
  subst e
  obtain⟨o,e,c,d⟩:=st
  exact⟨o,e,fun v z=>by rw[d] at z;cases z⟩
 keep:=fun i h h' st k=>st.at fun o e=>k it (by simp) o e
 item:=by
  intro X hP hw hK hc i aa s σ H E I hf st hg
  subst hP hw hK
  obtain⟨xs,x,hq,hx⟩:=hg
  obtain⟨its,rv,p,hz⟩:=I.list hq
  obtain⟨u,hu,ru⟩:=rv.get hx
  obtain⟨f0,f1,f2,f3,f4,f5⟩:=hf it (by simp)
  refine wpAny_pyNext_list_item st p.isList (x:=u) (by simpa using hu) fun h' st' sb=>?_
  have I1:Inv X aa σ H { s with heap:=h' }:=I.turned (t':=s.toks) (fun b o hb e=>(sb.2 b hb).trans e) f0 f1 f3 f4 f5
  obtain⟨o,e,c,d⟩:=id st'
  exact⟨u,rfl,oo (s:={ s with heap:=h' }) e c d (by decide) ⟨x,H,I1,ru,⟨rfl,fun ys hy=>by rw[I.list_inj hy hq];exact hx⟩,st',fun b hb=>(hf b hb).1⟩⟩
 done:=by
  intro X hP hw hK hc i aa s σ H E I hf st hg
  subst hP hw hK
  obtain⟨xs,hq,hx⟩:=hg
  obtain⟨its,rv,p,hz⟩:=I.list hq
  obtain⟨f0,f1,f2,f3,f4,f5⟩:=hf it (by simp)
  have hl:=rv.length
  exact wpAny_pyNext_list_end (I.ok.hd hc) st p.isList (by simp;omega) fun h' eb=>⟨rfl,I.turned (t':=s.toks) (fun b o hb e=>eb b o hb e) f0 f1 f3 f4 f5⟩
 self:=fun _ _ _ _ _ st h=>wpAny_pyIter_listiter st h
theorem sM {P:Program}{w:World}{K:W.Frag}{tg:Expr}(a it:Addr):Turn P w K tg (Itt K a) [it] it (fun i h=>h.IsTupleIter it a i) where
 mem:=by simp
 obj:=fun i h st b hb=>by
  have e:b=it:=by simpa using hb
  subst e
  obtain⟨o,e,c,d⟩:=st
  exact⟨o,e,fun v z=>by rw[d] at z;cases z⟩
 keep:=fun i h h' st k=>st.at fun o e=>k it (by simp) o e
 item:=by
  intro X hP hw hK hc i aa s σ H E I hf st hg
  subst hP hw hK
  obtain⟨xs,x,hq,hx⟩:=hg
  obtain⟨its,rv,p,hz⟩:=I.tuple hq
  obtain⟨u,hu,ru⟩:=rv.get hx
  obtain⟨f0,f1,f2,f3,f4,f5⟩:=hf it (by simp)
  refine wpAny_pyNext_tuple_item st (show s.heap.IsTuple a its.toArray from p) (x:=u) (by simpa using hu) fun h' st' sb=>?_
  have I1:Inv X aa σ H { s with heap:=h' }:=I.turned (t':=s.toks) (fun b o hb e=>(sb.2 b hb).trans e) f0 f1 f3 f4 f5
  obtain⟨o,e,c,d⟩:=id st'
  exact⟨u,rfl,oo (s:={ s with heap:=h' }) e c d (by decide) ⟨x,H,I1,ru,⟨rfl,fun ys hy=>by rw[I.tuple_inj hy hq];exact hx⟩,st',fun b hb=>(hf b hb).1⟩⟩
 done:=by
  intro X hP hw hK hc i aa s σ H E I hf st hg
  subst hP hw hK
  obtain⟨xs,hq,hx⟩:=hg
  obtain⟨its,rv,p,hz⟩:=I.tuple hq
  obtain⟨f0,f1,f2,f3,f4,f5⟩:=hf it (by simp)
  have hl:=rv.length
  exact wpAny_pyNext_tuple_end (I.ok.hd hc) st (show s.heap.IsTuple a its.toArray from p) (by simp;omega) fun h' eb=>⟨rfl,I.turned (t':=s.toks) (fun b o hb e=>eb b o hb e) f0 f1 f3 f4 f5⟩
 self:=fun _ _ _ _ _ st h=>wpAny_pyIter_tupleiter st h
theorem sN {P:Program}{w:World}{K:W.Frag}{tg:Expr}(it:Addr) (lo:Int) (n:Nat):Turn P w K tg (Itr lo n) [it] it (fun i h=>IsRangeIter h it (lo+(i:Nat)*1) ((n:Int)-(i:Nat)) 1) where
 mem:=by simp
 obj:=fun i h st b hb=>by
  have e:b=it:=by simpa using hb
  subst e
  exact⟨_,st,fun v z=>by
   have z':Data.fields _=Data.cell v:=z
   cases z'⟩
 keep:=fun i h h' st k=>k it (by simp) _ st
 item:=by
  intro X hP hw hK hc i aa s σ H E I hf st hg
  subst hP hw hK
  obtain⟨f0,f1,f2,f3,f4,f5⟩:=hf it (by simp)
  have W:=Walks.range (prog:=X.prog) (w:=X.w) (I.ok.hd hc) it lo 1 n
  refine W.item i s _ _ hg st fun v h' tk hv st' kk=>?_
  obtain⟨t,rfl⟩:=hv
  have I1:Inv X aa σ H { s with heap:=h',toks:=tk }:=I.turned (fun b o hb e=>kk b o (by simpa using hb) e) f0 f1 f3 f4 f5
  refine⟨_,rfl,oo (s:={ s with heap:=h',toks:=tk }) (n:="range_iterator") st' rfl rfl (by decide) ⟨.int (lo+i),H,I1,⟨t,?_⟩,⟨rfl,rfl⟩,st',fun b hb=>(hf b hb).1⟩⟩
  rw[Int.mul_one]
 done:=by
  intro X hP hw hK hc i aa s σ H E I hf st hg
  subst hP hw hK
  obtain⟨f0,f1,f2,f3,f4,f5⟩:=hf it (by simp)
  exact wpAny_pyNext_range_end (I.ok.hd hc) st (by have:n≤i:=hg;omega) fun h' eb=>⟨rfl,I.turned (t':=s.toks) (fun b o hb e=>eb b o hb e) f0 f1 f3 f4 f5⟩
 self:=fun _ _ _ _ _ st h=>wpAny_pyIter_rangeiter st h
end L2
namespace L2
open PySem PySem.Spec PyProof.Rows
section
variable {X:Cx}{tg:Expr}
def Dp (K:W.Frag) (tl:TE):TI:=fun σ H R=>tl σ H fun x H1=>∃a,x=.ref a∧(∃xs,SqL K H1 a xs)∧R (Itl K a) H1
def Ev (K:W.Frag) (tl:TE):TI:=fun σ H R=>tl σ H fun x H1=>∃a,x=.ref a∧(∃xs,SqT K H1 a xs)∧R (Itt K a) H1
theorem cH {l:Expr}{tl:TE}(hl:PE X l tl):PI X tg l (Dp X.K tl):=by
 intro aa s σ H R I h
 refine thn (hl aa s σ H _ I h) fun v s1 ⟨x,H1,I1,r1,q1⟩=>?_
 obtain⟨a,e,⟨xs,hq⟩,q⟩:=q1
 subst e
 cases r1
 obtain⟨its,rv,p,hz⟩:=I1.list hq
 refine wpAny_pyIter_list p.isList ?_
 refine⟨s1.heap.objs.size,[s1.heap.objs.size],_,_,H1,rfl,I1.kept (t':=s1.toks) fun b o e=>Heap.get?_push_of_some _ e,uC a _,⟨_,Heap.get?_push_size _ rfl,rfl,rfl⟩,fun b hb=>?_,q⟩
 have e:b=s1.heap.objs.size:=by simpa using hb
 subst e
 exact I1.fpOk (Nat.le_refl _) (I1.hok.fresh (Nat.le_refl _))
theorem gW {l:Expr}{tl:TE}(hl:PE X l tl):PI X tg l (Ev X.K tl):=by
 intro aa s σ H R I h
 refine thn (hl aa s σ H _ I h) fun v s1 ⟨x,H1,I1,r1,q1⟩=>?_
 obtain⟨a,e,⟨xs,hq⟩,q⟩:=q1
 subst e
 cases r1
 obtain⟨its,rv,p,hz⟩:=I1.tuple hq
 refine wpAny_pyIter_tuple (show s1.heap.IsTuple a its.toArray from p) ?_
 refine⟨s1.heap.objs.size,[s1.heap.objs.size],_,_,H1,rfl,I1.kept (t':=s1.toks) fun b o e=>Heap.get?_push_of_some _ e,sM a _,⟨_,Heap.get?_push_size _ rfl,rfl,rfl⟩,fun b hb=>?_,q⟩
 have e:b=s1.heap.objs.size:=by simpa using hb
 subst e
 exact I1.fpOk (Nat.le_refl _) (I1.hok.fresh (Nat.le_refl _))
theorem wr {aa:List (Addr×Obj)}{σ:St}{H:Hp}{s:Shared}{R:It->Hp->Prop}{E:Value->Shared->Prop}{lo hi:Int}{t u v:Tok}{tk:Nat}(I:Inv X aa σ H s) (h1:-(2 ^ 62)≤lo) (h2:lo<2 ^ 62) (h3:-(2 ^ 62)≤hi) (h4:hi<2 ^ 62)
  (q:R (Itr lo (hi-lo).toNat) H):wpAny (model X.prog X.w) X.A (pyIter (.ref s.heap.objs.size)) (PIE X aa σ tg R) E { s with heap:=s.heap.push { cls:=.type "range",data:=.fields #[.int lo t,.int hi u,.int 1 v] },toks:=tk }:=by
 refine wpAny_pyIter_range (IsRange.new ..) (small_one h1 h2 h3 h4) ?_
 have I1:Inv X aa σ H { s with heap:=s.heap.push { cls:=.type "range",data:=.fields #[.int lo t,.int hi u,.int 1 v] },toks:=tk }:=I.kept fun b o e=>Heap.get?_push_of_some _ e
 refine⟨(s.heap.push { cls:=.type "range",data:=.fields #[.int lo t,.int hi u,.int 1 v] }).objs.size,[(s.heap.push { cls:=.type "range",data:=.fields #[.int lo t,.int hi u,.int 1 v] }).objs.size],_,_,H,rfl,
  I1.kept (t':=tk) fun b o e=>Heap.get?_push_of_some _ e,sN _ lo (hi-lo).toNat,?_,fun b hb=>?_,q⟩
 ·have e1:lo+((0:Nat):Int)*1=lo:=by simp
  have e2:(((hi-lo).toNat:Nat):Int)-((0:Nat):Int)=Builtin.Range.rangeSize lo hi 1:=by rw[rangeSize_one];split <;> omega
  show IsRangeIter _ _ (lo+((0:Nat):Int)*1) ((((hi-lo).toNat:Nat):Int)-((0:Nat):Int)) 1
  rw[e1,e2]
  exact Heap.get?_push_size _ rfl
 ·have e:b=(s.heap.push { cls:=.type "range",data:=.fields #[.int lo t,.int hi u,.int 1 v] }).objs.size:=by simpa using hb
  subst e
  exact I1.fpOk (Nat.le_refl _) (I1.hok.fresh (Nat.le_refl _))
def Dq (ta:TA):TI:=fun σ H R=>ta σ H fun vs H1=>∃j:Int,vs=[.int j]∧-(2 ^ 62)≤j∧j<2 ^ 62∧R (Itr 0 j.toNat) H1
theorem gA {a:Expr}{ta:TA}{p pos:Pos}(hg:Gl X "range") (hm:X.mg "range"=none) (ha:PA X [a] ta) (hs:starEach [a] X.env=[(false,eval a X.env)]:=by rfl):PI X tg (.Call (.Name "range" p) [a] [] pos) (Dq ta):=by
 intro aa s σ H R I h
 refine Call_ (lc I hg hm boot_range (PyProof.Rows.callWith_type1 (thn (ha pos aa s σ H _ I h) fun us s1 ⟨vs,H1,I1,r1,q1⟩=>?_) hs rfl))
 obtain⟨j,e,q1,q2,q⟩:=q1
 subst e
 cases r1 with
 | cons r rr=>
  cases rr
  obtain⟨t,rfl⟩:=r
  exact call_range_1 (wr I1 (by omega) (by omega) q1 q2 (by simpa using q))
def Ew (wi:TI) (g:TG) (tb:TS):TS:=fun D σ H=>wi σ H fun J H1=>∃W:Nat->Nat->St->Hp->Prop,(∃m,W 0 m σ H1)∧∀i m σ H,W i m σ H->
 (J.stop i H∧D.nx σ H)∨(J.go i H∧∃N:St->Hp->Prop,(∀σ' H',N σ' H'->∃m',m' < m∧W (i+1) m' σ' H')∧∀x H',J.yld i H x H'->g x σ H' fun σ2 H2=>tb { D with nx:=N,ct:=N,bk:=D.nx } σ2 H2)
def gm (fp:List Addr) (h:Heap):List (Addr×Obj):=fp.filterMap fun b=>(h.get? b).map fun o=>(b,o)
theorem cK {fp:List Addr}{h:Heap}{b:Addr}{o:Obj}(hb:b∈fp) (e:h.get? b=some o):(b,o)∈gm fp h:=List.mem_filterMap.mpr ⟨b,hb,by rw[e];rfl⟩
theorem uD {fp:List Addr}{h:Heap}{p:Addr×Obj}(hp:p∈gm fp h):p.1∈fp∧h.get? p.1=some p.2:=by
 obtain⟨b,hb,e⟩:=List.mem_filterMap.mp hp
 cases q:h.get? b with
 | none=>rw[q] at e;cases e
 | some o=>
  rw[q] at e
  have e':(b,o)=p:=Option.some.inj e
  subst e'
  exact⟨hb,q⟩
theorem Inv.pinned {aa:List (Addr×Obj)}{σ:St}{H:Hp}{s:Shared}{fp:List Addr}(I:Inv X aa σ H s) (hf:∀b∈fp,fh X aa H b) (ho:∀b∈fp,∃o,s.heap.get? b=some o∧∀v,o.data≠.cell v):Inv X (aa++gm fp s.heap) σ H s:=
 I.pins_of fun p hp=>(List.mem_append.mp hp).elim (fun z=>I.pin p (List.mem_append_right _ z)) fun z=>by
  obtain⟨hb,e⟩:=uD z
  obtain⟨f0,f1,f2,_⟩:=hf p.1 hb
  obtain⟨o,e',d⟩:=ho p.1 hb
  rw[e] at e';cases e'
  exact⟨e,f0,f1,f2,d⟩
theorem Inv.unpinned {aa pl:List (Addr×Obj)}{σ:St}{H:Hp}{s:Shared}(I:Inv X (aa++pl) σ H s):Inv X aa σ H s:=I.pins_of fun p hp=>I.pin p (List.mem_append_right _ (List.mem_append_left _ hp))
theorem dz {iter:Expr}{body:List Stmt}{wi:TI}{g:TG}{tb:TS}{pos:Pos}(hp:PassesOwn (model X.prog X.w) X.A X.env X.xe) (hc:X.calm=true) (hi:PI X tg iter wi) (hg:PG X tg g) (hb:PSs X body tb)
  (hs:∀x,foldedSetIterable iter X.env x=pure x:=by intro _;rfl):PS X (.For tg iter body [] pos) (Ew wi g tb):=by
 intro aa s σ H D I h
 refine wpAny_For (thn (hi aa s σ H _ I h) fun v s1 h1=>thn h1 fun itv s2 h2=>?_) hs
 obtain⟨it,fp,tn,J,H2,e,I2,T,st2,f2,W,⟨m0,w0⟩,turn⟩:=h2
 subst e
 have stat:∀{H':Hp},(∀b∈fp,H' b=none)->∀b∈fp,fh X aa H' b:=fun hn b hb=>⟨hn b hb,(f2 b hb).2⟩
 refine codeAny_forLoop_any (fun n s'=>∃i σ' H',Inv X aa σ' H' s'∧tn i s'.heap∧(∀b∈fp,H' b=none)∧W i n σ' H') ?_ m0 ⟨0,σ,H2,I2,st2,fun b hb=>(f2 b hb).1,w0⟩
 rintro n s3 ⟨i,σ3,H3,I3,st3,fr3,w3⟩
 rcases turn i n σ3 H3 w3 with⟨stop,qn⟩|⟨go,N,hN,step⟩
 ·refine wpAny_passesOwn hp (thn (T.done X rfl rfl rfl hc i aa s3 σ3 H3 X.xe I3 (stat fr3) st3 stop) fun r s4 ⟨hr,I4⟩=>?_)
  subst hr
  exact wpAny_execs_nil ⟨σ3,H3,I4,qn⟩
 ·refine wpAny_passesOwn hp (thn (T.item X rfl rfl rfl hc i aa s3 σ3 H3 X.xe I3 (stat fr3) st3 go) fun r s4 ⟨u,hr,h4⟩=>?_)
  subst hr
  refine wpAny_passesOwn hp (thn h4 fun _ s5 ⟨x,H5,I5,r5,y5,st5,fr5⟩=>?_)
  have I5':=I5.pinned (stat fr5) (T.obj _ _ st5)
  refine wpAny_passesOwn hp (thn (hg _ s5 σ3 H5 x u _ I5' r5 (step x H5 y5)) fun _ s6 ⟨σ6,H6,I6,q6⟩=>?_)
  refine wpAny_passesOwn hp (thn (hb _ s6 σ6 H6 _ I6 q6) fun f s7 q7=>?_)
  have again:∀{σ7:St}{H7:Hp},Inv X (aa++gm fp s5.heap) σ7 H7 s7->N σ7 H7->∃m,m<n∧∃i σ' H',Inv X aa σ' H' s7∧tn i s7.heap∧(∀b∈fp,H' b=none)∧W i m σ' H':=fun {σ7 H7} I7 n7=>by
   obtain⟨m',hm,w7⟩:=hN σ7 H7 n7
   refine⟨m',hm,i+1,σ7,H7,I7.unpinned,T.keep _ _ _ st5 fun b hb o e=>(I7.pin (b,o) (List.mem_append_right _ (List.mem_append_right _ (cK hb e)))).1,fun b hb=>?_,w7⟩
   obtain⟨o,e,d⟩:=T.obj _ _ st5 b hb
   exact(I7.pin (b,o) (List.mem_append_right _ (List.mem_append_right _ (cK hb e)))).2.1
  cases f with
  | next=>obtain⟨σ7,H7,I7,n7⟩:=q7;exact again I7 n7
  | cont=>obtain⟨σ7,H7,I7,n7⟩:=q7;exact again I7 n7
  | brk=>obtain⟨σ7,H7,I7,q7⟩:=q7;exact⟨σ7,H7,I7.unpinned,q7⟩
  | ret v=>obtain⟨x7,σ7,H7,I7,r7,q7⟩:=q7;exact⟨x7,σ7,H7,I7.unpinned,r7,q7⟩
end
theorem fj {K:W.Frag}{a:Addr}{xs:List V}{g:TG}{tb:TS}{D:Ends}{σ:St}{H:Hp}(Pv:Nat->St->Hp->Prop) (h0:Pv 0 σ H) (hl:∀i σ H,i≤xs.length->Pv i σ H->SqL K H a xs)
  (hs:∀i x σ H,xs[i]?=some x->Pv i σ H->g x σ H fun σ2 H2=>tb { D with nx:=Pv (i+1),ct:=Pv (i+1),bk:=D.nx } σ2 H2) (hd:∀σ H,Pv xs.length σ H->D.nx σ H) :
  ∃W:Nat->Nat->St->Hp->Prop,(∃m,W 0 m σ H)∧∀i m σ H,W i m σ H->
   ((Itl K a).stop i H∧D.nx σ H)∨((Itl K a).go i H∧∃N:St->Hp->Prop,(∀σ' H',N σ' H'->∃m',m' < m∧W (i+1) m' σ' H')∧∀x H',(Itl K a).yld i H x H'->g x σ H' fun σ2 H2=>tb { D with nx:=N,ct:=N,bk:=D.nx } σ2 H2):=by
 refine⟨fun i m σ H=>m=xs.length-i∧i≤xs.length∧Pv i σ H,⟨xs.length,by simp,Nat.zero_le _,h0⟩,?_⟩
 rintro i m σ H ⟨rfl,hi,p⟩
 have q:=hl i σ H hi p
 by_cases hlt:i<xs.length
 ·refine .inr ⟨⟨xs,xs[i],q,by simp[hlt]⟩,Pv (i+1),fun σ' H' p'=>⟨xs.length-(i+1),by omega,rfl,hlt,p'⟩,fun x H' y=>?_⟩
  obtain⟨e,y⟩:=y
  subst e
  exact hs i x σ _ (y xs q) p
 ·have e:i=xs.length:=by omega
  subst e
  exact .inl ⟨⟨xs,q,Nat.le_refl _⟩,hd σ H p⟩
theorem jO {K:W.Frag}{a:Addr}{xs:List V}{g:TG}{tb:TS}{D:Ends}{σ:St}{H:Hp}(Pv:Nat->St->Hp->Prop) (h0:Pv 0 σ H) (hl:∀i σ H,i≤xs.length->Pv i σ H->SqT K H a xs)
  (hs:∀i x σ H,xs[i]?=some x->Pv i σ H->g x σ H fun σ2 H2=>tb { D with nx:=Pv (i+1),ct:=Pv (i+1),bk:=D.nx } σ2 H2) (hd:∀σ H,Pv xs.length σ H->D.nx σ H) :
  ∃W:Nat->Nat->St->Hp->Prop,(∃m,W 0 m σ H)∧∀i m σ H,W i m σ H->
   ((Itt K a).stop i H∧D.nx σ H)∨((Itt K a).go i H∧∃N:St->Hp->Prop,(∀σ' H',N σ' H'->∃m',m' < m∧W (i+1) m' σ' H')∧∀x H',(Itt K a).yld i H x H'->g x σ H' fun σ2 H2=>tb { D with nx:=N,ct:=N,bk:=D.nx } σ2 H2):=by
 refine⟨fun i m σ H=>m=xs.length-i∧i≤xs.length∧Pv i σ H,⟨xs.length,by simp,Nat.zero_le _,h0⟩,?_⟩
 rintro i m σ H ⟨rfl,hi,p⟩
 have q:=hl i σ H hi p
 by_cases hlt:i<xs.length
 ·refine .inr ⟨⟨xs,xs[i],q,by simp[hlt]⟩,Pv (i+1),fun σ' H' p'=>⟨xs.length-(i+1),by omega,rfl,hlt,p'⟩,fun x H' y=>?_⟩
  obtain⟨e,y⟩:=y
  subst e
  exact hs i x σ _ (y xs q) p
 ·have e:i=xs.length:=by omega
  subst e
  exact .inl ⟨⟨xs,q,Nat.le_refl _⟩,hd σ H p⟩
theorem uE {lo:Int}{n:Nat}{g:TG}{tb:TS}{D:Ends}{σ:St}{H:Hp}(Pv:Nat->St->Hp->Prop) (h0:Pv 0 σ H)
  (hs:∀i σ H,i<n->Pv i σ H->g (.int (lo+i)) σ H fun σ2 H2=>tb { D with nx:=Pv (i+1),ct:=Pv (i+1),bk:=D.nx } σ2 H2) (hd:∀σ H,Pv n σ H->D.nx σ H) :
  ∃W:Nat->Nat->St->Hp->Prop,(∃m,W 0 m σ H)∧∀i m σ H,W i m σ H->
   ((Itr lo n).stop i H∧D.nx σ H)∨((Itr lo n).go i H∧∃N:St->Hp->Prop,(∀σ' H',N σ' H'->∃m',m' < m∧W (i+1) m' σ' H')∧∀x H',(Itr lo n).yld i H x H'->g x σ H' fun σ2 H2=>tb { D with nx:=N,ct:=N,bk:=D.nx } σ2 H2):=by
 refine⟨fun i m σ H=>m=n-i∧i≤n∧Pv i σ H,⟨n,by simp,Nat.zero_le _,h0⟩,?_⟩
 rintro i m σ H ⟨rfl,hi,p⟩
 by_cases hlt:i<n
 ·refine .inr ⟨hlt,Pv (i+1),fun σ' H' p'=>⟨n-(i+1),by omega,rfl,hlt,p'⟩,fun x H' y=>?_⟩
  obtain⟨e,y⟩:=y
  subst e y
  exact hs i σ _ hlt p
 ·have e:i=n:=by omega
  subst e
  exact .inl ⟨Nat.le_refl _,hd σ H p⟩
end L2
namespace L2
open PySem PySem.Spec PyProof.Rows
abbrev R2:=V->V->Hp->VK->Prop
def OpR (X:Cx) (f:Value->Value->Sem Value) (r:R2):Prop:=
 ∀(aa:List (Addr×Obj)) (s:Shared) (σ:St) (H:Hp) (x y:V) (v u:Value) (Q:VK),Inv X aa σ H s->aF x v->aF y u->r x y H Q->
  wpAny (model X.prog X.w) X.A (f v u) (EP X aa σ Q) X.xe s
def UnR (X:Cx) (f:Value->Sem Value) (r:V->Hp->VK->Prop):Prop:=
 ∀(aa:List (Addr×Obj)) (s:Shared) (σ:St) (H:Hp) (x:V) (v:Value) (Q:VK),Inv X aa σ H s->aF x v->r x H Q->
  wpAny (model X.prog X.w) X.A (f v) (EP X aa σ Q) X.xe s
def cS (X:Cx) (f:Value) (r:List V->Hp->VK->Prop):Prop:=
 ∀(aa:List (Addr×Obj)) (s:Shared) (σ:St) (H:Hp) (xs:List V) (us:List Value) (Q:VK),Inv X aa σ H s->az xs us->r xs H Q->
  wpAny (model X.prog X.w) X.A (call f us) (EP X aa σ Q) X.xe s
def Ex (X:Cx) (r:V->Hp->(Bool->Hp->Prop)->Prop):Prop:=
 ∀(aa:List (Addr×Obj)) (s:Shared) (σ:St) (H:Hp) (x:V) (v:Value) (Q:Bool->Hp->Prop),Inv X aa σ H s->aF x v->r x H Q->
  wpAny (model X.prog X.w) X.A (truthy v) (TP X aa σ Q) X.xe s
def tOp (r:R2) (ta tb:TE):TE:=fun σ H Q=>ta σ H fun x H1=>tb σ H1 fun y H2=>r x y H2 Q
def tUn (r:V->Hp->VK->Prop) (ta:TE):TE:=fun σ H Q=>ta σ H fun x H1=>r x H1 Q
def rI (C:Int->Int->Prop) (g:Int->Int->V):R2:=fun x y H Q=>∃i j,x=.int i∧y=.int j∧C i j∧Q (g i j) H
def rI0 (g:Int->Int->V):R2:=fun x y H Q=>∃i j,x=.int i∧y=.int j∧Q (g i j) H
def rU (g:Int->V):V->Hp->VK->Prop:=fun x H Q=>∃i,x=.int i∧Q (g i) H
section
variable {X:Cx}{a b c:Expr}{ta tb tc:TE}{pos:Pos}
theorem wt (ha:PE X a ta) (hb:PE X b tb) {aa:List (Addr×Obj)}{s:Shared}{σ:St}{H:Hp}{R:V->V->Hp->Prop}(I:Inv X aa σ H s)
  (h:ta σ H fun x H1=>tb σ H1 fun y H2=>R x y H2) {Q:Value->Shared->Prop}{f:Value->Value->Sem Value}
  (hf:∀v u s2 x y H2,Inv X aa σ H2 s2->aF x v->aF y u->R x y H2->wpAny (model X.prog X.w) X.A (f v u) Q X.xe s2) :
  wpAny (model X.prog X.w) X.A (eval a X.env) (fun v s₁=>wpAny (model X.prog X.w) X.A (eval b X.env) (fun u s₂=>wpAny (model X.prog X.w) X.A (f v u) Q X.xe s₂) X.xe s₁) X.xe s:=by
 refine thn (ha aa s σ H _ I h) fun v s1 ⟨x,H1,I1,r1,q1⟩=>?_
 refine thn (hb aa s1 σ H1 _ I1 q1) fun u s2 ⟨y,H2,I2,r2,q2⟩=>?_
 exact hf v u s2 x y H2 I2 r1 r2 q2
theorem aw {op:Operator}{r:R2}(ho:OpR X (binaryOp op) r) (ha:PE X a ta) (hb:PE X b tb):PE X (.BinOp a op b pos) (tOp r ta tb):=by
 intro aa s σ H Q I h
 exact wpAny_BinOp (wt ha hb I h fun v u s2 x y H2 I2 rx ry q=>ho aa s2 σ H2 x y v u Q I2 rx ry q)
theorem sP {op:UnaryOp}{r:V->Hp->VK->Prop}(ho:UnR X (unaryOp op) r) (ha:PE X a ta):PE X (.UnaryOp op a pos) (tUn r ta):=by
 intro aa s σ H Q I h
 exact UnaryOp_ (thn (ha aa s σ H _ I h) fun v s1 ⟨x,H1,I1,r1,q1⟩=>ho aa s1 σ H1 x v Q I1 r1 q1)
theorem opI {f:Value->Value->Sem Value}{C:Int->Int->Prop}{g:Int->Int->Int}
  (rule:∀(i j:Int) (t u:Tok) (s:Shared) (Q:Value->Shared->Prop) (E:Value->Shared->Prop),C i j->Q (.int (g i j) s.toks) { s with toks:=s.toks+1 }->wpAny (model X.prog X.w) X.A (f (.int i t) (.int j u)) Q E s) :
  OpR X f (rI C fun i j=>.int (g i j)):=by
 intro aa s σ H x y v u Q I rx ry h
 obtain⟨i,j,rfl,rfl,hc,q⟩:=h
 obtain⟨t,rfl⟩:=rx
 obtain⟨t',rfl⟩:=ry
 exact rule i j t t' s _ _ hc ⟨.int (g i j),H,I.tok _,⟨_,rfl⟩,q⟩
theorem sQ {f:Value->Value->Sem Value}{g:Int->Int->Int}
  (rule:∀(i j:Int) (t u:Tok) (s:Shared) (Q:Value->Shared->Prop) (E:Value->Shared->Prop),Q (.int (g i j) s.toks) { s with toks:=s.toks+1 }->wpAny (model X.prog X.w) X.A (f (.int i t) (.int j u)) Q E s) :
  OpR X f (rI0 fun i j=>.int (g i j)):=by
 intro aa s σ H x y v u Q I rx ry h
 obtain⟨i,j,rfl,rfl,q⟩:=h
 obtain⟨t,rfl⟩:=rx
 obtain⟨t',rfl⟩:=ry
 exact rule i j t t' s _ _ ⟨.int (g i j),H,I.tok _,⟨_,rfl⟩,q⟩
theorem Ag {f:Value->Value->Sem Value}{g:Int->Int->Bool}
  (rule:∀(i j:Int) (t u:Tok) (s:Shared) (Q:Value->Shared->Prop) (E:Value->Shared->Prop),Q (.bool (g i j)) s->wpAny (model X.prog X.w) X.A (f (.int i t) (.int j u)) Q E s) :
  OpR X f (rI0 fun i j=>.bl (g i j)):=by
 intro aa s σ H x y v u Q I rx ry h
 obtain⟨i,j,rfl,rfl,q⟩:=h
 obtain⟨t,rfl⟩:=rx
 obtain⟨t',rfl⟩:=ry
 exact rule i j t t' s _ _ ⟨.bl (g i j),H,I,rfl,q⟩
def Ey (i j:Int):Prop:=0<j∧j<1073741824
def Ez (i j:Int):Prop:=0≤j∧j≤1000000∧i.natAbs<2 ^ 64
def wu (i j:Int):Prop:=(-(2 ^ 64)<i∧i<2 ^ 64)∨(-(2 ^ 64)<j∧j<2 ^ 64)
theorem wu.ok {i j:Int}(h:wu i j):IntMulOk i j:=by
 rcases h with⟨h1,h2⟩|⟨h1,h2⟩
 ·exact .of_left (intBits_le_64 h1 h2)
 ·exact .of_right (intBits_le_64 h1 h2)
theorem bB:OpR X (binaryOp .Add) (rI0 fun i j=>.int (i+j)):=sQ fun _ _ _ _ _ _ _ q=>add_int q
theorem jf:OpR X (binaryOp .Sub) (rI0 fun i j=>.int (i-j)):=sQ fun _ _ _ _ _ _ _ q=>sub_int q
theorem oK:OpR X (binaryOp .Mult) (rI wu fun i j=>.int (i*j)):=opI fun _ _ _ _ _ _ _ hc q=>mul_int q hc.ok
theorem eU:OpR X (binaryOp .FloorDiv) (rI Ey fun i j=>.int (i / j)):=opI fun i j _ _ _ _ _ hc q=>by
 have h1:(0:Int)<j:=hc.1
 have h2:j<1073741824:=hc.2
 exact floordiv_int (by omega) (by rw[Int.fdiv_eq_ediv_of_nonneg i (by omega)];exact q) (.inl (PyProof.noPylong_small (by omega)))
theorem cy:OpR X (binaryOp .Mod) (rI (fun _ j=>0<j) fun i j=>.int (i % j)):=opI fun i j _ _ _ _ _ hc q=>by
 have h1:(0:Int)<j:=hc
 exact mod_int' (by omega) (by rw[Int.fmod_eq_emod_of_nonneg i (by omega)];exact q)
theorem uF:OpR X (binaryOp .LShift) (rI Ez fun i j=>.int (i*2 ^ j.toNat)):=opI fun _ _ _ _ _ _ _ hc q=>lshift_int_small hc.1 hc.2.1 hc.2.2 q
theorem Ah:OpR X (binaryOp .BitAnd) (rI0 fun i j=>.int (Builtin.bitAnd i j)):=sQ fun _ _ _ _ _ _ _ q=>and_int q
theorem Ds:OpR X (binaryOp .BitOr) (rI0 fun i j=>.int (Builtin.bitOr i j)):=sQ fun _ _ _ _ _ _ _ q=>or_int q
theorem unI {f:Value->Sem Value}{g:Int->Int}
  (rule:∀(i:Int) (t:Tok) (s:Shared) (Q:Value->Shared->Prop) (E:Value->Shared->Prop),Q (.int (g i) s.toks) { s with toks:=s.toks+1 }->wpAny (model X.prog X.w) X.A (f (.int i t)) Q E s) :
  UnR X f (rU fun i=>.int (g i)):=by
 intro aa s σ H x v Q I rx h
 obtain⟨i,rfl,q⟩:=h
 obtain⟨t,rfl⟩:=rx
 exact rule i t s _ _ ⟨.int (g i),H,I.tok _,⟨_,rfl⟩,q⟩
theorem oM:UnR X (unaryOp .USub) (rU fun i=>.int (-i)):=unI fun _ _ _ _ _ q=>neg_int q
end
def Ai:V->V->Bool
 | .non,.non=>true | .non,.int _=>true | .int _,.non=>true | .non,.bl _=>true | .bl _,.non=>true | .non,.str _=>true | .str _,.non=>true
 | .int _,.int _=>true | .bl _,.bl _=>true | .str _,.str _=>true | .byt _,.byt _=>true
 | .int _,.str _=>true | .str _,.int _=>true | .bl _,.str _=>true | .str _,.bl _=>true
 | _,_=>false
def rEq:R2:=fun x y H Q=>Ai x y=true∧Q (.bl (decide (x=y))) H
def rNe:R2:=fun x y H Q=>Ai x y=true∧Q (.bl (!decide (x=y))) H
theorem rA {i j:Int}:decide (V.int i=V.int j)=(i==j):=by
 rw[Bool.eq_iff_iff]
 simp
theorem uG {i j:Bool}:decide (V.bl i=V.bl j)=(i==j):=by
 rw[Bool.eq_iff_iff]
 simp
theorem rB {i j:Str}:decide (V.str i=V.str j)=(i==j):=by
 rw[Bool.eq_iff_iff]
 simp
theorem rC {i j:Array UInt8}:decide (V.byt i=V.byt j)=(i.toList==j.toList):=by
 rw[Bool.eq_iff_iff]
 cases i
 cases j
 simp
section
variable {X:Cx}{a b c:Expr}{ta tb tc:TE}{pos:Pos}
theorem ba {aa:List (Addr×Obj)}{σ:St}{H:Hp}{s:Shared}{Q:VK}{k k':Bool}(I:Inv X aa σ H s) (q:Q (.bl k) H) (e:k=k'):EP X aa σ Q (.bool k') s:=by
 subst e
 exact⟨.bl k,H,I,rfl,q⟩
theorem cb:OpR X (compareOp .Eq) rEq:=by
 intro aa s σ H x y v u Q I rx ry h
 obtain⟨hs,q⟩:=h
 cases x with
 | non=>
  cases rx
  cases y with
  | non=>cases ry;exact PySem.EqNone.eq_none_none (ba I q (by simp))
  | bl j=>cases ry;exact PySem.EqNone.eq_none_bool (ba I q (by simp))
  | int j=>obtain⟨t',rfl⟩:=ry;exact PySem.EqNone.eq_none_int (ba I q (by simp))
  | str j=>obtain⟨t',rfl⟩:=ry;exact PySem.EqNone.eq_none_str (ba I q (by simp))
  | _=>exact absurd (show false=true from hs) Bool.false_ne_true
 | bl i=>
  cases rx
  cases y with
  | non=>cases ry;exact PySem.EqNone.eq_bool_none (ba I q (by simp))
  | bl j=>cases ry;exact eq_bool (ba I q uG)
  | str j=>obtain⟨t',rfl⟩:=ry;exact PySem.EqMixed.eq_bool_str (ba I q (by simp))
  | _=>exact absurd (show false=true from hs) Bool.false_ne_true
 | int i=>
  obtain⟨t,rfl⟩:=rx
  cases y with
  | non=>cases ry;exact PySem.EqNone.eq_int_none (ba I q (by simp))
  | int j=>obtain⟨t',rfl⟩:=ry;exact eq_int (ba I q rA)
  | str j=>obtain⟨t',rfl⟩:=ry;exact PySem.EqMixed.eq_int_str (ba I q (by simp))
  | _=>exact absurd (show false=true from hs) Bool.false_ne_true
 | str i=>
  obtain⟨t,rfl⟩:=rx
  cases y with
  | non=>cases ry;exact PySem.EqNone.eq_str_none (ba I q (by simp))
  | bl j=>cases ry;exact PySem.EqMixed.eq_str_bool (ba I q (by simp))
  | int j=>obtain⟨t',rfl⟩:=ry;exact PySem.EqMixed.eq_str_int (ba I q (by simp))
  | str j=>obtain⟨t',rfl⟩:=ry;exact eq_str (ba I q rB)
  | _=>exact absurd (show false=true from hs) Bool.false_ne_true
 | byt i=>
  obtain⟨t,rfl⟩:=rx
  cases y with
  | byt j=>obtain⟨t',rfl⟩:=ry;exact W.eq_bytes (ba I q rC)
  | _=>exact absurd (show false=true from hs) Bool.false_ne_true
 | _=>cases y <;> exact absurd (show false=true from hs) Bool.false_ne_true
theorem gB:OpR X (compareOp .NotEq) rNe:=by
 intro aa s σ H x y v u Q I rx ry h
 obtain⟨hs,q⟩:=h
 cases x with
 | non=>
  cases rx
  cases y with
  | non=>cases ry;exact PySem.EqNone.ne_none_none (ba I q (by simp))
  | bl j=>cases ry;exact PySem.EqNone.ne_none_bool (ba I q (by simp))
  | int j=>obtain⟨t',rfl⟩:=ry;exact PySem.EqNone.ne_none_int (ba I q (by simp))
  | str j=>obtain⟨t',rfl⟩:=ry;exact PySem.EqNone.ne_none_str (ba I q (by simp))
  | _=>exact absurd (show false=true from hs) Bool.false_ne_true
 | bl i=>
  cases rx
  cases y with
  | non=>cases ry;exact PySem.EqNone.ne_bool_none (ba I q (by simp))
  | bl j=>cases ry;exact ne_bool (ba I q (congrArg not uG))
  | str j=>obtain⟨t',rfl⟩:=ry;exact PySem.EqMixed.ne_bool_str (ba I q (by simp))
  | _=>exact absurd (show false=true from hs) Bool.false_ne_true
 | int i=>
  obtain⟨t,rfl⟩:=rx
  cases y with
  | non=>cases ry;exact PySem.EqNone.ne_int_none (ba I q (by simp))
  | int j=>obtain⟨t',rfl⟩:=ry;exact ne_int (ba I q (congrArg not rA))
  | str j=>obtain⟨t',rfl⟩:=ry;exact PySem.EqMixed.ne_int_str (ba I q (by simp))
  | _=>exact absurd (show false=true from hs) Bool.false_ne_true
 | str i=>
  obtain⟨t,rfl⟩:=rx
  cases y with
  | non=>cases ry;exact PySem.EqNone.ne_str_none (ba I q (by simp))
  | bl j=>cases ry;exact PySem.EqMixed.ne_str_bool (ba I q (by simp))
  | int j=>obtain⟨t',rfl⟩:=ry;exact PySem.EqMixed.ne_str_int (ba I q (by simp))
  | str j=>obtain⟨t',rfl⟩:=ry;exact ne_str (ba I q (congrArg not rB))
  | _=>exact absurd (show false=true from hs) Bool.false_ne_true
 | byt i=>
  obtain⟨t,rfl⟩:=rx
  cases y with
  | byt j=>obtain⟨t',rfl⟩:=ry;exact W.ne_bytes (ba I q (congrArg not rC))
  | _=>exact absurd (show false=true from hs) Bool.false_ne_true
 | _=>cases y <;> exact absurd (show false=true from hs) Bool.false_ne_true
theorem fX:OpR X (compareOp .Lt) (rI0 fun i j=>.bl (decide (i<j))):=Ag fun _ _ _ _ _ _ _ q=>lt_int q
theorem iy:OpR X (compareOp .LtE) (rI0 fun i j=>.bl (decide (i≤j))):=Ag fun _ _ _ _ _ _ _ q=>le_int q
theorem li:OpR X (compareOp .Is) (fun x y H Q=>y=.non∧Q (.bl (decide (x=.non))) H):=by
 intro aa s σ H x y v u Q I rx ry h
 obtain⟨rfl,q⟩:=h
 cases ry
 refine is_none_gen (ba I q ?_)
 cases x <;> first
  | (cases rx;rfl)
  | (obtain⟨t,rfl⟩:=rx;rfl)
theorem aG (b:Expr) {op:CmpOp}(h:op≠.In:=by decide) (h2:op≠.NotIn:=by decide):behindInMarks op b=false:=by
 have e1:(op==CmpOp.In)=false:=by cases op <;> first|rfl|exact absurd rfl h
 have e2:(op==CmpOp.NotIn)=false:=by cases op <;> first|rfl|exact absurd rfl h2
 cases b <;> simp[behindInMarks,e1,e2]
theorem gf {op:CmpOp}{r:R2}(ho:OpR X (compareOp op) r) (ha:PE X a ta) (hb:PE X b tb) (hm:behindInMarks op b=false):PE X (.Compare a [op] [b] pos) (tOp r ta tb):=by
 intro aa s σ H Q I h
 exact wpAny_Compare1 (wt ha hb I h fun v u s2 x y H2 I2 rx ry q=>ho aa s2 σ H2 x y v u Q I2 rx ry q) hm
def xR (t:TE):TT:=fun σ H Q=>t σ H fun x H'=>∃k,x=.bl k∧Q k H'
theorem aD {op:CmpOp}{r:R2}(ho:OpR X (compareOp op) r) (ha:PE X a ta) (hb:PE X b tb) (hm:behindInMarks op b=false):PT X (.Compare a [op] [b] pos) (xR (tOp r ta tb)):=by
 intro aa s σ H Q I h
 refine wpAny_isTrue_Compare1 (thn (ha aa s σ H _ I h) fun v s1 ⟨x,H1,I1,r1,q1⟩=>thn (hb aa s1 σ H1 _ I1 q1) fun u s2 ⟨y,H2,I2,r2,q2⟩=>
  thn (ho aa s2 σ H2 x y v u _ I2 r1 r2 q2) fun c s3 ⟨z,H3,I3,r3,k,e,q3⟩=>?_) hm
 subst e
 cases r3
 exact wpAny_truthy_bool ⟨H3,I3,q3⟩
def uH (r r':R2) (ta tb tc:TE):TE:=fun σ H Q=>ta σ H fun x H1=>tb σ H1 fun y H2=>r x y H2 fun z H3=>∃k,z=.bl k∧
 (if k=true then tc σ H3 fun w' H4=>r' y w' H4 Q else Q (.bl false) H3)
theorem wv {op op':CmpOp}{r r':R2}(ho:OpR X (compareOp op) r) (ho':OpR X (compareOp op') r') (ha:PE X a ta) (hb:PE X b tb) (hc:PE X c tc)
  (hm:lastMarks [op,op'] [b,c]=false:=by with_unfolding_all rfl):PE X (.Compare a [op,op'] [b,c] pos) (uH r r' ta tb tc):=by
 intro aa s σ H Q I h
 refine Compare_chain (thn (ha aa s σ H _ I h) fun v s1 ⟨x,H1,I1,r1,q1⟩=>chain_link (thn (hb aa s1 σ H1 _ I1 q1) fun u s2 ⟨y,H2,I2,r2,q2⟩=>
  thn (ho aa s2 σ H2 x y v u _ I2 r1 r2 q2) fun d s3 ⟨z,H3,I3,r3,k,e,q3⟩=>?_)) hm
 subst e
 cases r3
 refine wpAny_truthy_bool ?_
 cases k with
 | false=>exact ite_ff ⟨.bl false,H3,I3,rfl,q3⟩
 | true=>exact ite_tt (chain_last (thn (hc aa s3 σ H3 _ I3 q3) fun w' s4 ⟨z',H4,I4,r4,q4⟩=>ho' aa s4 σ H4 y z' u w' Q I4 r2 r4 q4))
theorem fq {op op':CmpOp}{r r':R2}(ho:OpR X (compareOp op) r) (ho':OpR X (compareOp op') r') (ha:PE X a ta) (hb:PE X b tb) (hc:PE X c tc)
  (hm:lastMarks [op,op'] [b,c]=false:=by with_unfolding_all rfl):PT X (.Compare a [op,op'] [b,c] pos) (xR (uH r r' ta tb tc)):=by
 intro aa s σ H Q I h
 refine isTrue_chain (thn (ha aa s σ H _ I h) fun v s1 ⟨x,H1,I1,r1,q1⟩=>test_link (thn (hb aa s1 σ H1 _ I1 q1) fun u s2 ⟨y,H2,I2,r2,q2⟩=>
  thn (ho aa s2 σ H2 x y v u _ I2 r1 r2 q2) fun d s3 ⟨z,H3,I3,r3,k,e,q3⟩=>?_)) hm
 subst e
 cases r3
 refine wpAny_truthy_bool ?_
 cases k with
 | false=>
  obtain⟨k',e',q'⟩:=q3
  cases e'
  exact ite_ff ⟨H3,I3,q'⟩
 | true=>
  refine ite_tt (test_last (thn (hc aa s3 σ H3 _ I3 q3) fun w' s4 ⟨z',H4,I4,r4,q4⟩=>thn (ho' aa s4 σ H4 y z' u w' _ I4 r2 r4 q4) fun d' s5 ⟨z2,H5,I5,r5,k2,e2,q5⟩=>?_))
  subst e2
  cases r5
  exact wpAny_truthy_bool ⟨H5,I5,q5⟩
def Aj (K:W.Frag) (x:V) (H:Hp) (k:Bool):Prop:=
 match x with
 | .non=>k=false
 | .bl b=>k=b
 | .int i=>k=(i != 0)
 | .str y=>y.length≤sizeLine∧k=((y.length:Int) != 0)
 | .byt y=>y.size≤sizeLine∧k=((y.size:Int) != 0)
 | .ref p=>(∃xs,SqL K H p xs∧k=!xs.isEmpty)∨(∃xs,SqT K H p xs∧k=!xs.isEmpty)∨∃kvs,H p=some (.dK kvs)∧k=!kvs.isEmpty
 | _=>False
theorem sR {κ:Type}{kvs:List (κ×V)}{vs:List (κ×Value)}(r:KV kvs vs):(!vs.isEmpty)=!kvs.isEmpty:=by
 cases r <;> rfl
theorem lj {xs:List V}{its:List Value}(r:az xs its):(!its.toArray.isEmpty)=!xs.isEmpty:=by
 cases r <;> simp
theorem lm:(sizeLine:Nat)<2 ^ 63:=by rw[sizeLine_eq];decide
theorem Ak:Ex X (fun x H Q=>∃k,Aj X.K x H k∧Q k H):=by
 intro aa s σ H x v Q I rx h
 obtain⟨k,e,q⟩:=h
 have hl:=lm
 have hs:sizeLine=16777216:=sizeLine_eq
 cases x with
 | non=>
  cases rx
  have e':k=false:=e
  subst e'
  exact truthy_none ⟨H,I,q⟩
 | bl b=>
  cases rx
  have e':k=b:=e
  subst e'
  exact wpAny_truthy_bool ⟨H,I,q⟩
 | int i=>
  obtain⟨t,rfl⟩:=rx
  have e':k=(i != 0):=e
  subst e'
  exact PySem.P.truthy_int ⟨H,I,q⟩
 | str y=>
  obtain⟨t,rfl⟩:=rx
  obtain⟨hy,e'⟩:y.length≤sizeLine∧k=((y.length:Int) != 0):=e
  subst e'
  exact PySem.P.truthy_str (by omega) ⟨H,I.tok _,q⟩
 | byt y=>
  obtain⟨t,rfl⟩:=rx
  obtain⟨hy,e'⟩:y.size≤sizeLine∧k=((y.size:Int) != 0):=e
  subst e'
  exact W.truthy_bytes (by omega) ⟨H,I.tok _,q⟩
 | ref p=>
  cases rx
  have e':(∃xs,SqL X.K H p xs∧k=!xs.isEmpty)∨(∃xs,SqT X.K H p xs∧k=!xs.isEmpty)∨∃kvs,H p=some (.dK kvs)∧k=!kvs.isEmpty:=e
  rcases e' with⟨xs,hx,e'⟩|⟨xs,hx,e'⟩|⟨kvs,hx,e'⟩
  ·subst e'
   obtain⟨its,r,pl,hz⟩:=I.list hx
   have hlen:=r.length
   exact wpAny_truthy_list pl.isList (by simp only[List.size_toArray];omega) ⟨H,I.tok _,by rw[lj r];exact q⟩
  ·subst e'
   obtain⟨its,r,pl,hz⟩:=I.tuple hx
   have hlen:=r.length
   exact truthy_tuple pl (by simp only[List.size_toArray];omega) ⟨H,I.tok _,by rw[lj r];exact q⟩
  ·subst e'
   obtain⟨hz,hS,vs,r,m⟩:kvs.length≤sizeLine∧(p==sysModules)=false∧∃vs,KV kvs vs∧s.heap.DictOf (bh X.prog X.w) p vs:=I.hok p _ hx
   have hlen:kvs.length=vs.length:=Paired.length r
   exact wpAny_truthy_dict hS m (by omega) ⟨H,I.tok _,by rw[sR r];exact q⟩
 | _=>exact(show False from e).elim
theorem oO (ha:PE X a ta) (he:∀whole,isTrue a X.env whole=(do let v ←whole;standAt a.pos;holding [v] (truthy v))) :
  PT X a (fun σ H Q=>ta σ H fun x H'=>∃k,Aj X.K x H' k∧Q k H'):=by
 intro aa s σ H Q I h
 exact isTrue_plain (thn (ha aa s σ H _ I h) fun v s1 ⟨x,H1,I1,r1,q1⟩=>Ak aa s1 σ H1 x v Q I1 r1 q1) (he _)
theorem eE {x:V}{us:List Value}(r:az [x] us):∃u,us=[u]∧aF x u:=by
 cases r with
 | cons r1 r2=>cases r2;exact⟨_,rfl,r1⟩
end
end L2
namespace L2
open PySem PySem.Spec PyProof.Rows
structure ObjM (h:Heap) (x dx C:Addr) (mA:Str->Option Value):Prop where
 obj:h.get? x=some (W.instObj C dx)
 ns:h.Ns1 dx mA
 ne:dx≠x
theorem uI {h:Heap}{dx:Addr}{mA:Str->Option Value}(n:h.Ns1 dx mA):∃od,h.get? dx=some od∧∀name,W.lookIn name od=some (mA name):=by
 obtain⟨o,es,ep,ho,hd,hk,_,hm⟩:=n
 refine⟨o,ho,fun name=>?_⟩
 have e:=hm name
 unfold nsFind findBy at e
 rw[←Array.find?_toList] at e
 unfold W.lookIn
 rw[hd]
 dsimp only
 split
 ·rename_i y q
  rw[q] at e
  exact congrArg some e
 ·rename_i q
  rw[q] at e
  have a:es.toList.any (·.refKey)=false:=by
   rw[List.any_eq_false]
   intro y hy
   obtain⟨z,t,hkey⟩:=hk y (Array.mem_toList_iff.mp hy)
   simp[DictEntry.refKey,hkey]
  have a':¬es.toList.any (·.refKey)=true:=by rw[a];exact Bool.false_ne_true
  rw[if_neg a']
  exact congrArg some e
theorem ObjM.look {h:Heap}{x dx C:Addr}{mA:Str->Option Value}(I:ObjM h x dx C mA):∃od,W.InstAt h x (W.instObj C dx) C (some od)∧∀name,W.lookIn name od=some (mA name):=
 let ⟨od,ho,hl⟩:=uI I.ns
 ⟨od,⟨I.obj,rfl,rfl,ho⟩,hl⟩
section
variable {prog:Program}{w:World}{A:Around}{E:Value->Shared->Prop}{s:Shared}{K:W.Frag}{x dx C f:Addr}{mA:Str->Option Value}{name:Str}{v:Value}
theorem yG {expr:Bool}{Q:Value->Shared->Prop}(X:K.In s.heap) (I:ObjM s.heap x dx C mA) (hg:W.plainGet K C name=true) (hh:W.hasDictIn K C=true)
  (ha:W.findIn K (.ref C) name=some none) (hv:mA name=some v) (hv':W.handedIn v=true) (h:Q v { s with toks:=s.toks+1 }) :
  wpAny (model prog w) A (getAttr (.ref x) name expr) Q E s:=by
 obtain⟨od,J,hl⟩:=I.look
 exact W.get_value X J (W.plainGet_of hg).1 (W.findObj_own hh ha rfl (by rw[hl,hv])) hv' h
theorem ww {pl:Sem Bool}{Q:Value×List Value->Shared->Prop}(X:K.In s.heap) (I:ObjM s.heap x dx C mA) (hg:W.plainGet K C name=true)
  (hf:W.findIn K (.ref C) name=some (some (.ref f))) (ht:W.isFn K (.ref f)=true) (hv:mA name=none) (h:Q (.ref f,[.ref x]) s) :
  wpAny (model prog w) A (getMethod (.ref x) name pl) Q E s:=by
 obtain⟨od,J,hl⟩:=I.look
 exact W.method_fn X J (W.plainGet_of hg).1 (W.plainGet_of hg).2 hf (beq_iff_eq.mp ht) (by show(W.lookIn name od).map (·.isSome)=some false;rw[hl,hv];rfl) h
theorem yH {ns:List Str}{Q:Unit->Shared->Prop}(X:K.In s.heap) (I:ObjM s.heap x dx C mA)
  (hs:W.findIn K (.ref C) "__setattr__"=some (some (.builtin "object.__setattr__"))) (hp:W.plainOver K C=true) (ht:W.takerIn K C name=some none) (hh:W.hasDictIn K C=true)
  (hw:PySem.Within mA ns) (hsz:ns.length≤sizeLine)
  (h:∀h',ObjM h' x dx C (fun y=>if y=name then some v else mA y)->Heap.SameBut dx s.heap h'->Q () { s with heap:=h',toks:=s.toks+2 }) :
  wpAny (model prog w) A (setAttr (.ref x) name v) Q E s:=by
 obtain⟨od,J,hl⟩:=I.look
 refine W.set_plain X J hs (W.osa_open (s:={ s with toks:=s.toks+1 }) (r:=none) X J hp ht fun b=>?_)
 obtain⟨cd,hc,hd'⟩:=W.any_some hh
 have hx:s.heap.get? x=some ⟨.ref C,some dx,.plain,#[]⟩:=I.obj
 refine wpAny_bind (wpAny_pure (wpAny_bind (wpAny_bind (wpAny_loadPart hx (wpAny_bind (W.Looks.here (s:={ s with toks:=s.toks+1 }) (W.looks_clsIn X hc) ?_))))))
 rw[hd']
 refine wpAny_pure (a:=some dx) (wpAny_bind (wpAny_pure (wpAny_bind ?_)))
 refine wpAny_nsSet1 (s:={ s with toks:=s.toks+1 }) I.ns fun h' hn2 hs2=>?_
 obtain⟨oD,esD,epD,hoD,hdD,hcD⟩:=hn2.count (PySem.Within.cons name v hw)
 refine wpAny_bind (wpAny_lookBehind hoD (by rw[hdD];exact pastItsLine_dict (Nat.le_trans hcD (by rw[List.length_cons];omega))) ?_)
 exact wpAny_pure (h _ ⟨(hs2.2 _ (Ne.symm I.ne)).trans I.obj,hn2,I.ne⟩ hs2)
theorem wx {R:Result->Shared->Prop}{vs:List Value}{kw:List (Str×Value)}(X:K.In s.heap) (hm:W.makesIn K C=true)
  (hi:W.findIn K (.ref C) "__init__"=some (some (.ref f))) (hf:W.typeIn K (.ref f)=some (.type "function"))
  (h:codeAny (model prog w) (A.under (.builtin "type.__call__" ⟨.ref C::vs,kw⟩)) (.call (.ref f) ⟨.ref (s.heap.objs.size+1)::vs,kw⟩) (W.InitBack (s.heap.objs.size+1) R)
   { s with heap:=(s.heap.push W.emptyDict).push (W.instObj C s.heap.objs.size) }) :
  codeAny (model prog w) A (.call (.ref C) ⟨vs,kw⟩) R s:=by
 obtain⟨hh,g,d,t,os⟩:=s
 exact W.make_core (W.makes_of X hm) (W.looks_findIn X hi) (fun self=>W.bind_fn X self hf) (.inl rfl) h
end
def dY (f:Str) (v:V):List (Str×V)->List (Str×V)
 | []=>[(f,v)]
 | (g,x)::r=>if g=f then (g,v)::r else (g,x)::dY f v r
theorem km (f g:Str) (v:V):∀fs:List (Str×V),(dY f v fs).lookup g=if g=f then some v else fs.lookup g
 | []=>by
  show List.lookup g [(f,v)]=_
  by_cases h:g=f
  ·have hb:(g==f)=true:=beq_iff_eq.mpr h
   simp only[List.lookup,hb,if_pos h]
  ·have hb:(g==f)=false:=beq_eq_false_iff_ne.mpr h
   simp only[List.lookup,hb,if_neg h]
 | (k,x)::r=>by
  have ih:=km f g v r
  rw[show dY f v ((k,x)::r)=(if k=f then (k,v)::r else (k,x)::dY f v r) from rfl]
  by_cases hk:k=f
  ·rw[if_pos hk]
   by_cases h:g=k
   ·have hb:(g==k)=true:=beq_iff_eq.mpr h
    simp only[List.lookup,hb,if_pos (h.trans hk)]
   ·have hb:(g==k)=false:=beq_eq_false_iff_ne.mpr h
    simp only[List.lookup,hb,if_neg (fun e:g=f=>h (e.trans hk.symm))]
  ·rw[if_neg hk]
   by_cases h:g=k
   ·have hb:(g==k)=true:=beq_iff_eq.mpr h
    simp only[List.lookup,hb,if_neg (fun e:g=f=>hk (h.symm.trans e))]
   ·have hb:(g==k)=false:=beq_eq_false_iff_ne.mpr h
    simp only[List.lookup,hb]
    exact ih
theorem jg (f:Str) (v:V):∀fs:List (Str×V),f∈(dY f v fs).map (·.1)∧∀g,g∈fs.map (·.1)->g∈(dY f v fs).map (·.1)
 | []=>⟨by simp[dY],fun g h=>by simp at h⟩
 | (k,x)::r=>by
  obtain⟨i1,i2⟩:=jg f v r
  rw[show dY f v ((k,x)::r)=(if k=f then (k,v)::r else (k,x)::dY f v r) from rfl]
  by_cases hk:k=f
  ·rw[if_pos hk]
   subst hk
   exact⟨by simp,fun g h=>by simpa using h⟩
  ·rw[if_neg hk]
   refine⟨?_,fun g h=>?_⟩
   ·rw[List.map_cons]
    exact List.mem_cons_of_mem _ i1
   ·rw[List.map_cons] at h ⊢
    rcases List.mem_cons.mp h with e|e
    ·exact List.mem_cons.mpr (.inl e)
    ·exact List.mem_cons_of_mem _ (i2 g e)
theorem ko (f:Str) (v:V):∀fs:List (Str×V),(dY f v fs).length≤fs.length+1
 | []=>by simp[dY]
 | (k,x)::r=>by
  have ih:=ko f v r
  rw[show dY f v ((k,x)::r)=(if k=f then (k,v)::r else (k,x)::dY f v r) from rfl]
  by_cases hk:k=f
  ·rw[if_pos hk,List.length_cons,List.length_cons];omega
  ·rw[if_neg hk,List.length_cons,List.length_cons];omega
theorem dX.some_of {v:V}{o:Option Value}(r:dX (some v) o):∃u,o=some u∧aF v u:=by
 cases o with
 | none=>exact(show False from r).elim
 | some u=>exact⟨u,rfl,r⟩
theorem dX.none_of {o:Option Value}(r:dX none o):o=none:=by
 cases o with
 | none=>rfl
 | some u=>exact(show False from r).elim
theorem uJ {v:V}{u:Value}(r:aF v u):W.handedIn u=true:=by
 cases v with
 | non=>cases (show u=Value.none from r);rfl
 | bl b=>cases (show u=Value.bool b from r);rfl
 | int i=>obtain⟨t,e⟩:=(show ∃t,u=Value.int i t from r);cases e;rfl
 | str x=>obtain⟨t,e⟩:=(show ∃t,u=Value.str x t from r);cases e;rfl
 | byt b=>obtain⟨t,e⟩:=(show ∃t,u=Value.bytes b t from r);cases e;rfl
 | flt b=>obtain⟨t,e⟩:=(show ∃t,u=Value.float b t from r);cases e;rfl
 | ref a=>cases (show u=Value.ref a from r);rfl
 | ty n=>cases (show u=Value.type n from r);rfl
section
variable {P:Program}{w:World}{H H':Hp}{h h':Heap}{a C dx:Addr}{fs fs':List (Str×V)}
theorem jP (hok:HOk P w H h) (e:H a=some (.ins C dx fs)):∃mA,ObjM h a dx C mA∧(∀f,dX (fs.lookup f) (mA f))∧PySem.Within mA (fs.map (·.1))∧fs.length≤1000∧H dx=some (.own a):=by
 obtain⟨d,z,ne,ob,mA,n,r,q⟩:=(show bc P w H h a (.ins C dx fs) from hok a _ e)
 exact⟨mA,⟨ob,n,ne⟩,r,q,z,d⟩
end
structure Cls (K:W.Frag) (C:Addr):Prop where
 pg:W.plainGet K C Str.empty=true
 hd:W.hasDictIn K C=true
 po:W.plainOver K C=true
 sa:W.findIn K (.ref C) "__setattr__"=some (some (.builtin "object.__setattr__"))
theorem Cls.get {K:W.Frag}{C:Addr}(c:Cls K C) (f:Str):W.plainGet K C f=true:=c.pg
def fM (K:W.Frag) (C:Addr) (f:Str):Prop:=W.findIn K (.ref C) f=some none
theorem fM.taker {K:W.Frag}{C:Addr}{f:Str}(n:fM K C f):W.takerIn K C f=some none:=by
 unfold W.takerIn
 rw[show W.findIn K (.ref C) f=some none from n]
 rfl
structure Meth (K:W.Frag) (C:Addr) (m:Str) (f:Addr):Prop where
 at_:W.findIn K (.ref C) m=some (some (.ref f))
 fn:W.isFn K (.ref f)=true
 kp:W.keepIn K (.ref f)=true
section
variable {X:Cx}{aa:List (Addr×Obj)}{σ:St}{H:Hp}{s:Shared}{a C dx:Addr}{fs:List (Str×V)}{f:Str}{v:V}{A:Around}{E:Value->Shared->Prop}
theorem sS {b:Bool}{Q:Value->Shared->Prop}(I:Inv X aa σ H s) (e:H a=some (.ins C dx fs)) (c:Cls X.K C) (n:fM X.K C f) (l:fs.lookup f=some v)
  (h:∀u s',Inv X aa σ H s'->aF v u->Q u s'):wpAny (model X.prog X.w) A (getAttr (.ref a) f b) Q E s:=by
 obtain⟨mA,O,r,_,_,_⟩:=jP I.hok e
 obtain⟨u,hu,ru⟩:=dX.some_of (v:=v) (o:=mA f) (by rw[←l];exact r f)
 exact yG I.kIn O (c.get f) c.hd n hu (uJ ru) (h u _ (I.tok _) ru)
theorem sU {m:Str}{g:Addr}{pl:Sem Bool}{Q:Value×List Value->Shared->Prop}(I:Inv X aa σ H s) (e:H a=some (.ins C dx fs)) (c:Cls X.K C) (k:Meth X.K C m g) (l:fs.lookup m=none)
  (h:Q (.ref g,[.ref a]) s):wpAny (model X.prog X.w) A (getMethod (.ref a) m pl) Q E s:=by
 obtain⟨mA,O,r,_,_,_⟩:=jP I.hok e
 have hn:mA m=none:=dX.none_of (by rw[←l];exact r m)
 exact ww I.kIn O (c.get m) k.at_ k.fn hn h
theorem sV {y:V}{u:Value}{Q:Unit->Shared->Prop}(I:Inv X aa σ H s) (e:H a=some (.ins C dx fs)) (c:Cls X.K C) (n:fM X.K C f) (hl:fs.length<1000) (ry:aF y u)
  (h:∀s',Inv X aa σ (upd H a (.ins C dx (dY f y fs))) s'->Q () s'):wpAny (model X.prog X.w) A (setAttr (.ref a) f u) Q E s:=by
 obtain⟨mA,O,r,wi,_,ho⟩:=jP I.hok e
 have hz:(fs.map (·.1)).length≤sizeLine:=by rw[List.length_map,sizeLine_eq];omega
 refine yH I.kIn O c.sa c.po n.taker c.hd wi hz fun h' O' sb=>h _ ?_
 have hd:∃o,h'.get? dx=some o:=let ⟨o,_,_,e',_⟩:=O'.ns;⟨o,e'⟩
 refine I.write (x:=a) (e:=dx) (by rw[e];exact True.intro) (.inr ho) (fun b q hb z=>(sb.2 b hb).trans z) hd ?_
 refine⟨by rw[aq O.ne];exact ho,?_,O.ne,O'.obj,_,O'.ns,fun g=>?_,fun g hg=>?_⟩
 ·have:=ko f y fs;omega
 ·show dX ((dY f y fs).lookup g) (if g=f then some u else mA g)
  rw[km]
  by_cases q:g=f
  ·rw[if_pos q,if_pos q];exact ry
  ·rw[if_neg q,if_neg q];exact r g
 ·by_cases q:g=f
  ·rw[q];exact(jg f y fs).1
  ·refine(jg f y fs).2 g (wi g fun z=>hg ?_)
   show(if g=f then some u else mA g)=none
   rw[if_neg q];exact z
theorem Inv.made (I:Inv X aa σ H s):Inv X aa σ (upd (upd H s.heap.objs.size (.own (s.heap.objs.size+1))) (s.heap.objs.size+1) (.ins C s.heap.objs.size []))
  { s with heap:=(s.heap.push W.emptyDict).push (W.instObj C s.heap.objs.size) }:=by
 have e1:(s.heap.push W.emptyDict).get? s.heap.objs.size=some W.emptyDict:=Heap.get?_push_size s.heap rfl
 have e2:((s.heap.push W.emptyDict).push (W.instObj C s.heap.objs.size)).get? (s.heap.objs.size+1)=some (W.instObj C s.heap.objs.size):=by
  have:=Heap.get?_push_size (s.heap.push W.emptyDict) (o:=W.instObj C s.heap.objs.size) rfl
  rwa[Heap.size_push] at this
 have e3:(s.heap.push W.emptyDict).Ns s.heap.objs.size (fun _=>none):=⟨W.emptyDict,#[],_,e1,rfl,(fun e he=>absurd he (by simp)),fun _=>rfl⟩
 have I1:=I.laid (a:=s.heap.objs.size) (o:=.own (s.heap.objs.size+1)) (h':=s.heap.push W.emptyDict) (t':=s.toks) (fun b u q=>Heap.get?_push_of_some _ q) (Nat.le_refl _) ⟨_,e1⟩
 refine I1.laid (a:=s.heap.objs.size+1) (o:=.ins C s.heap.objs.size []) (t':=s.toks) (fun b u q=>Heap.get?_push_of_some _ q) (Nat.le_of_eq (Heap.size_push _ _)) ?_
 have ne:s.heap.objs.size≠s.heap.objs.size+1:=Nat.ne_of_lt (Nat.lt_succ_self _)
 refine⟨by rw[aq ne,ag],Nat.zero_le _,ne,e2,fun _=>none,(Heap.Ns1.of_empty e3).at fun o q=>Heap.get?_push_of_some _ q,fun _=>True.intro,fun y hy=>absurd rfl hy⟩
theorem yI {prog:Program}{w:World}{env:Env}{e:Expr}{f:Str}{pos:Pos}{s:Shared}{Q:Value->Shared->Prop}(hb:attributeBase e f env (eval e env)=eval e env)
  (h:wpAny (model prog w) A (eval e env) (fun o s₁=>wpAny (model prog w) A (getAttr o f true) Q E s₁) E s):wpAny (model prog w) A (eval (.Attribute e f pos) env) Q E s:=
 Attribute_any_ h (by rw[arm_eval_Attribute,hb])
end
def EA (K:W.Frag) (ta:TE) (f:Str):TE:=fun σ H Q=>ta σ H fun x H1=>∃a C dx fs v,x=.ref a∧H1 a=some (.ins C dx fs)∧Cls K C∧fM K C f∧fs.lookup f=some v∧Q v H1
def EB (K:W.Frag) (ta tv:TE) (f:Str):TS:=fun D σ H=>tv σ H fun y H1=>ta σ H1 fun x H2=>∃a C dx fs,x=.ref a∧H2 a=some (.ins C dx fs)∧Cls K C∧fM K C f∧fs.length<1000∧
 D.nx σ (upd H2 a (.ins C dx (dY f y fs)))
section
variable {X:Cx}{o e value:Expr}{f:Str}{pos pos' tpos:Pos}{ta tv:TE}
theorem gX (he:PE X e ta) (hb:attributeBase e f X.env (eval e X.env)=eval e X.env):PE X (.Attribute e f pos) (EA X.K ta f):=by
 intro aa s σ H Q I h
 refine yI hb (thn (he aa s σ H _ I h) fun u s1 ⟨x,H1,I1,rx,a,C,dx,fs,v,ex,ea,c,n,l,q⟩=>?_)
 subst ex
 obtain rfl:u=Value.ref a:=rx
 exact sS I1 ea c n l fun u' s2 I2 ru=>⟨v,H1,I2,ru,q⟩
theorem uK (ha:PE X o ta) (hv:PE X value tv) (hs:swapsWith value (some (.Attribute o f pos')) pos.line X.env=pure false):PS X (.Assign [.Attribute o f pos'] value pos) (EB X.K ta tv f):=by
 intro aa s σ H D I h
 refine plainObj_wpAny_Assign_Attribute (thn (hv aa s σ H _ I h) fun u s1 ⟨y,H1,I1,ry,q⟩=>thn (ha aa s1 σ H1 _ I1 q) fun ov s2 ⟨x,H2,I2,rx,a,C,dx,fs,ex,ea,c,n,l,q2⟩=>?_) hs
 subst ex
 obtain rfl:ov=Value.ref a:=rx
 exact sV I2 ea c n l ry fun s3 I3=>⟨σ,_,I3,q2⟩
end
section
variable {X:Cx}{aa:List (Addr×Obj)}{σ:St}{H:Hp}{s:Shared}{A:Around}{E:Value->Shared->Prop}{Q:Value->Shared->Prop}{c:Value}{b:Bool}
inductive TyOf (K:W.Frag) (H:Hp):V->Value->Prop where
 | non:TyOf K H .non (.type "NoneType")
 | bl (x:Bool):TyOf K H (.bl x) (.type "bool")
 | int (i:Int):TyOf K H (.int i) (.type "int")
 | str (x:Str):TyOf K H (.str x) (.type "str")
 | flt (x:UInt64):TyOf K H (.flt x) (.type "float")
 | lst {a:Addr}{xs:List V}(e:H a=some (.lst xs)):TyOf K H (.ref a) (.type "list")
 | frz {a:Addr}{o:Obj}{xs:List V}(e:H a=some (.frz o (.lst xs))):TyOf K H (.ref a) (.type "list")
 | tup {a:Addr}{xs:List V}(e:H a=some (.tup xs)):TyOf K H (.ref a) (.type "tuple")
 | dK {a:Addr}{kvs:List (Key×V)}(e:H a=some (.dK kvs)):TyOf K H (.ref a) (.type "dict")
 | dT {a:Addr}{kvs:List (List Key×V)}(e:H a=some (.dT kvs)):TyOf K H (.ref a) (.type "dict")
 | ins {a C dx:Addr}{fs:List (Str×V)}(e:H a=some (.ins C dx fs)) (cl:Cls K C) (ha:W.findIn K (.ref C) "__class__"=some (some (.builtin "object.__class__")))
   (hn:W.specialIn K (.builtin "object.__class__") "__get__"=some (some (.builtin "getset_descriptor.__get__"))) (htk:W.takesIn K (.builtin "object.__class__")=some true)
   (hm:W.mroIn K C (.type "object")=some true):TyOf K H (.ref a) (.ref C)
theorem uL {x:V}{u t:Value}(I:Inv X aa σ H s) (rx:aF x u) (ty:TyOf X.K H x t) (e:W.kitOne X.K t c=some b) (h:∀tk,Q (.bool b) { s with toks:=tk }) :
  wpAny (model X.prog X.w) A (call (.builtin "isinstance") [u,c]) Q E s:=by
 cases ty with
 | non=>cases (show u=Value.none from rx);exact W.kia_one W.kitx_none I.kIn True.intro e (fun z=>nomatch z) h
 | bl y=>cases (show u=Value.bool y from rx);exact W.kia_one W.kitx_bool I.kIn True.intro e (fun z=>nomatch z) h
 | int i=>obtain⟨t,q⟩:=(show ∃t,u=Value.int i t from rx);cases q;exact W.kia_one W.kitx_int I.kIn True.intro e (fun z=>nomatch z) h
 | str y=>obtain⟨t,q⟩:=(show ∃t,u=Value.str y t from rx);cases q;exact W.kia_one W.kitx_str I.kIn True.intro e (fun z=>nomatch z) h
 | flt y=>obtain⟨t,q⟩:=(show ∃t,u=Value.float y t from rx);cases q;exact W.kia_one W.kitx_float I.kIn True.intro e (fun z=>nomatch z) h
 | @lst a xs ea=>
  cases (show u=Value.ref a from rx)
  obtain⟨_,_,n,_,h1⟩:=(show bc X.prog X.w H s.heap a (.lst xs) from I.hok a _ ea)
  exact W.kia_one W.kitx_list I.kIn ⟨_,h1,rfl⟩ e (fun z=>nomatch z) h
 | @frz a ob xs ea=>
  cases (show u=Value.ref a from rx)
  obtain⟨_,_,_,n,_,h1⟩:=(show bc X.prog X.w H s.heap a (.frz ob (.lst xs)) from I.hok a _ ea)
  exact W.kia_one W.kitx_list I.kIn ⟨_,h1,rfl⟩ e (fun z=>nomatch z) h
 | @tup a xs ea=>
  cases (show u=Value.ref a from rx)
  obtain⟨_,_,_,p⟩:=(show bc X.prog X.w H s.heap a (.tup xs) from I.hok a _ ea)
  obtain⟨o,h1,h2,_⟩:=p
  exact W.kia_one W.kitx_tuple I.kIn ⟨o,h1,h2⟩ e (fun z=>nomatch z) h
 | @dK a kvs ea=>
  cases (show u=Value.ref a from rx)
  obtain⟨_,_,vs,_,p⟩:=(show bc X.prog X.w H s.heap a (.dK kvs) from I.hok a _ ea)
  obtain⟨o,es,ep,h1,h2,_⟩:=p
  exact W.kia_one W.kitx_dict I.kIn ⟨o,h1,h2.1⟩ e (fun z=>nomatch z) h
 | @dT a kvs ea=>
  cases (show u=Value.ref a from rx)
  obtain⟨_,_,xs,_,o,es,ep,h1,h2,_⟩:=(show bc X.prog X.w H s.heap a (.dT kvs) from I.hok a _ ea)
  exact W.kia_one W.kitx_dict I.kIn ⟨o,h1,h2.1⟩ e (fun z=>nomatch z) h
 | @ins a C dx fs ea cl ha hn htk hm=>
  cases (show u=Value.ref a from rx)
  obtain⟨mA,O,_⟩:=jP I.hok ea
  obtain⟨od,J,_⟩:=O.look
  exact W.kia_one (W.kitx_own (cl.get _) cl.hd ha hn htk hm) I.kIn J e (fun z=>nomatch z) h
end
end L2
namespace L2
open PySem PySem.Spec PyProof.Rows
structure Room (k:Nat) (A:Around):Prop where
 hd:A.handled=none
 dp:A.depth+3*k+5<recursionLimit
 un:A.units+16*k+200<cLine
 gd:A.guards=some []
theorem Room.mono {j k:Nat}{A:Around}(r:Room k A) (h:j≤k):Room j A:=⟨r.hd,by have:=r.dp;omega,by have:=r.un;omega,r.gd⟩
theorem Room.deeper {k:Nat}{A:Around}(r:Room (k+1) A) (env:Env):Room k (A.deeper env):=
 ⟨r.hd,by have:=r.dp;show A.depth+1+3*k+5<_;omega,by have:=r.un;show A.units+3+16*k+200<_;omega,r.gd⟩
theorem sW {A:Around}{C:Addr}{us:List Value}{kw:List (Str×Value)}:(A.under (.builtin "type.__call__" ⟨.ref C::us,kw⟩)).depth=A.depth+1:=by
 first|rfl|simp[Around.under,Code.weight,Code.isCreation,Code.isGuard,Code.isCaller,Code.frames,Code.isFrame,guardIds]
theorem sX {A:Around}{C:Addr}{us:List Value}{kw:List (Str×Value)}:(A.under (.builtin "type.__call__" ⟨.ref C::us,kw⟩)).units=A.units+1:=by
 first|rfl|simp[Around.under,Code.cUnits,Code.frames,Code.isFrame]
theorem Room.make {k:Nat}{A:Around}(r:Room (k+1) A) (C:Addr) (us:List Value) (kw:List (Str×Value)):Room k (A.under (.builtin "type.__call__" ⟨.ref C::us,kw⟩)):=
 ⟨r.hd,by have:=r.dp;rw[sW];omega,by have:=r.un;rw[sX];omega,by
  first|exact r.gd|(have g:=r.gd;simp[Around.under,Code.guards,Code.isGuard,guardIds,pushGuards,g])⟩
theorem Room.depth {k:Nat}{A:Around}(r:Room k A):A.depth<recursionLimit:=by have:=r.dp;omega
theorem Room.units {k:Nat}{A:Around}(r:Room k A):A.units+64<cLine:=by have:=r.un;omega
theorem Room.units0 {k:Nat}{A:Around}(r:Room k A):A.units<cLine:=by have:=r.un;omega
def Al:TA:=fun _ H Q=>Q [] H
def Dt (ta:TE) (tr:TA):TA:=fun σ H Q=>ta σ H fun x H1=>tr σ H1 fun xs H2=>Q (x::xs) H2
section
variable {X:Cx}{e:Expr}{es:List Expr}{te:TE}{t:TA}{pos:Pos}
theorem ae:PA X [] Al:=fun _ _ _ _ H Q I h=>Calls.spliced_nil ⟨[],H,I,.nil,h⟩
theorem ac (ha:PE X e te) (hr:PA X es t) (hs:starEach (e::es) X.env=(false,eval e X.env)::starEach es X.env:=by rfl):PA X (e::es) (Dt te t):=by
 intro pos aa s σ H Q I h
 rw[hs]
 show wpAny _ _ (spliced ((false,eval e X.env)::backTo pos (starEach es X.env))) _ _ s
 refine Calls.spliced_cons (thn (ha aa s σ H _ I h) fun u s1 ⟨x,H1,I1,r1,q1⟩=>?_)
 exact thn (hr pos aa s1 σ H1 _ I1 q1) fun us s2 ⟨xs,H2,I2,r2,q2⟩=>⟨x::xs,H2,I2,.cons r1 r2,q2⟩
def EC (t:TA):TE:=fun σ H Q=>t σ H fun xs H1=>xs.length≤sizeLine∧∀p,H1 p=none->Q (.ref p) (upd H1 p (.tup xs))
def ED (t:TA):TE:=fun σ H Q=>t σ H fun xs H1=>xs.length≤sizeLine∧∀p,H1 p=none->Q (.ref p) (upd H1 p (.lst xs))
theorem aY {x1}(h:PA X es t):PE X (.Tuple es x1 pos) (EC t):=by
 intro aa s σ H Q I hq
 refine wpAny_Tuple_spliced (thn (h pos aa s σ H _ I hq) fun us s1 ⟨xs,H1,I1,r,z,q⟩=>⟨by rw[←r.length];exact z,?_⟩)
 have hf:H1 s1.heap.objs.size=none:=I1.hok.fresh (Nat.le_refl _)
 refine⟨.ref s1.heap.objs.size,upd H1 s1.heap.objs.size (.tup xs),I1.laid (t':=s1.toks) (fun b u e=>Heap.get?_push_of_some _ e) (Nat.le_refl _) ?_,rfl,q _ hf⟩
 exact⟨z,us,r,⟨_,Heap.get?_push_size _ rfl,rfl,_,rfl⟩⟩
theorem aO (h:PA X es t):PE X (.List es pos) (ED t):=by
 intro aa s σ H Q I hq
 refine wpAny_List_spliced (thn (h pos aa s σ H _ I hq) fun us s1 ⟨xs,H1,I1,r,z,q⟩=>⟨by rw[←r.length];exact z,?_⟩)
 have hf:H1 s1.heap.objs.size=none:=I1.hok.fresh (Nat.le_refl _)
 refine⟨.ref s1.heap.objs.size,upd H1 s1.heap.objs.size (.lst xs),I1.laid (t':=s1.toks) (fun b u e=>Heap.get?_push_of_some _ e) (Nat.le_refl _) ?_,rfl,q _ hf⟩
 exact⟨z,us,0,r,Heap.get?_push_size _ rfl⟩
end
abbrev Sp:=List V->Hp->VK->XK->Prop
abbrev CXT:=List Env->Hp->Shared->XK->Value->Shared->Prop
structure Env0 (P:Program) (w:World) (K:W.Frag) (mg:Str->Option Value) (base:Heap) (A:Around) (outer:List Env) (s:Shared) (H:Hp):Prop where
 frames:A.frames=some outer
 mod:Mod K mg base
 bs:∀b o,base.get? b=some o->s.heap.get? b=some o∧H b=none
 bsz:base.objs.size≤s.heap.objs.size
 funs:s.heap.FunFrames base outer
 frf:∀b∈frs outer,H b=none
 hok:HOk P w H s.heap
 bare:AllBare s.gens
def CE (outer:List Env) (P:Program) (w:World) (H:Hp) (s:Shared) (Q:VK) (u:Value) (s':Shared):Prop:=
 ∃v H',s'.os=s.os∧AllBare s'.gens∧Un (frs outer) [] H H' s.heap s'.heap∧HOk P w H' s'.heap∧aF v u∧Q v H'
def CR (CX:CXT) (outer:List Env) (P:Program) (w:World) (H:Hp) (s:Shared) (Q:VK) (E:XK) (r:Result) (s':Shared):Prop:=
 match r with
 | .ok (.ret u)=>CE outer P w H s Q u s'
 | .ok _=>False
 | .error e=>CX outer H s E e s'
structure FnOk (P:Program) (w:World) (K:W.Frag) (mg:Str->Option Value) (base:Heap) (CX:CXT) (k:Nat) (f:Addr) (fd:FuncData) (ps:List Str) (sp:Sp):Prop where
 len:∀vs H Q E,sp vs H Q E->vs.length=ps.length
 run:∀(A:Around) (outer:List Env) (s:Shared) (H:Hp) (args:Args) (us:List Value) (vs:List V) (Q:VK) (E:XK),Room k A->Env0 P w K mg base A outer s H->BindsTo s fd args (ps.zip us)->az vs us->sp vs H Q E->
  codeAny (model P w) A (.call (.ref f) args) (CR CX outer P w H s Q E) s
theorem Env0.make {P:Program}{w:World}{K:W.Frag}{mg:Str->Option Value}{base:Heap}{A:Around}{outer:List Env}{s:Shared}{H:Hp}(e:Env0 P w K mg base A outer s H) (C:Addr) (us:List Value) (kw:List (Str×Value)) :
  Env0 P w K mg base (A.under (.builtin "type.__call__" ⟨.ref C::us,kw⟩)) outer s H:=⟨by first|exact e.frames|(simpa [Around.under,Code.envs,Code.isFrame,pushEnvs] using e.frames),e.mod,e.bs,e.bsz,e.funs,e.frf,e.hok,e.bare⟩
section
variable {X:Cx}{aa:List (Addr×Obj)}{σ:St}{H:Hp}{s s':Shared}
theorem Inv.env0 (I:Inv X aa σ H s):Env0 X.prog X.w X.K X.mg X.base X.A X.stack s H:=
 ⟨I.ok.frames,I.ok.mod,I.bs,Nat.le_trans I.ok.bsz I.sz,I.stack,I.stkFree,I.hok,I.bare⟩
theorem Inv.after {Q:VK}{u:Value}(I:Inv X aa σ H s) (h:CE X.stack X.prog X.w H s Q u s'):EP X aa σ Q u s':=by
 obtain⟨v,H',os,bare,un,hok,r,q⟩:=h
 obtain⟨hh,g,d,t,os'⟩:=s'
 obtain rfl:os'=s.os:=os
 exact⟨v,H',I.call (h':=hh) (g':=g) (d':=d) (t':=t) (ch:=[]) un hok bare (fun b z=>absurd z (by simp)),r,q⟩
end
def Du (C:Addr) (m:Str) (sp:Sp) (dvs:List V) (E:XK) (ta:TE) (t:TA):TE:=fun σ H Q=>ta σ H fun x H1=>∃a dx fs,x=.ref a∧H1 a=some (.ins C dx fs)∧fs.lookup m=none∧
 t σ H1 fun vs H2=>sp (x::(vs++dvs)) H2 Q E
def Dv (C:Addr) (sp:Sp) (dvs:List V) (E:XK) (t:TA):TE:=fun σ H Q=>t σ H fun vs H1=>∀x dx,H1 x=none->H1 dx=none->dx≠x->
 sp (.ref x::(vs++dvs)) (upd (upd H1 dx (.own x)) x (.ins C dx [])) (fun v H2=>v=.non∧Q (.ref x) H2) E
def cD (K:W.Frag) (fd:FuncData) (ps:List Str) (ds:List Value):Prop:=
 ∀(s:Shared) (us:List Value),K.In s.heap->(us++ds).length=ps.length->BindsTo s fd ⟨us,[]⟩ (ps.zip (us++ds))
theorem cD.all {K:W.Frag}{fd:FuncData}{ps:List Str}(h:∀us:List Value,us.length=ps.length->bindArgs fd ⟨us,[]⟩=pure (ps.zip us)):cD K fd ps []:=fun s us _ hl=>by
 rw[List.append_nil] at hl ⊢
 exact .of_eq (h us hl)
def jh (CX:CXT) (X:Cx) (E:XK):Prop:=∀(aa:List (Addr×Obj)) (σ:St) (H:Hp) (s:Shared) (e:Value) (s':Shared),Inv X aa σ H s->CX X.stack H s E e s'->X.xe e s'
section
variable {X:Cx}{CX:CXT}{k:Nat}{f C:Addr}{fd:FuncData}{ps:List Str}{sp:Sp}{dvs:List V}{ds:List Value}{E:XK}{x m:Str}{p pos apos:Pos}{e o:Expr}{es:List Expr}{ta:TE}{t:TA}
theorem Am {aa:List (Addr×Obj)}{σ:St}{H:Hp}{s:Shared}{Q:VK}{us:List Value}{vs:List V}(F:FnOk X.prog X.w X.K X.mg X.base CX k f fd ps sp) (hr:Room k X.A) (hb:cD X.K fd ps ds) (hd:az dvs ds) (hx:jh CX X E)
  (I:Inv X aa σ H s) (r:az vs us) (h:sp (vs++dvs) H Q E):wpAny (model X.prog X.w) X.A (call (.ref f) us) (EP X aa σ Q) X.xe s:=by
 have r2:az (vs++dvs) (us++ds):=r.append hd
 have hl:(us++ds).length=ps.length:=by rw[←r2.length];exact F.len _ _ _ _ h
 refine wpAny_call (codeAny_mono (F.run X.A X.stack s H ⟨us,[]⟩ (us++ds) (vs++dvs) Q E hr I.env0 (hb s us I.kIn hl) r2 h) fun r s' hq=>?_)
 cases r with
 | error e=>exact hx aa σ H s e s' I hq
 | ok fl=>
  cases fl with
  | ret u=>exact I.after hq
  | next=>exact False.elim hq
  | brk=>exact False.elim hq
  | cont=>exact False.elim hq
theorem yJ {pl:Sem Bool}(he:PE X o ta) (c:Cls X.K C) (hm:Meth X.K C m f) (F:FnOk X.prog X.w X.K X.mg X.base CX k f fd ps sp) (hr:Room k X.A) (hb:cD X.K fd ps ds) (hd:az dvs ds) (hx:jh CX X E) (ha:PA X (e::es) t)
  (hst:starEach (e::es) X.env=(false,eval e X.env)::starEach es X.env:=by rfl) (hpl:(backTo pos (starEach es X.env)).any (·.1)=false:=by rfl)
  (ht:eval (.Call (.Attribute o m apos) (e::es) [] pos) X.env=(do
   let ov ←eval o X.env
   standAt apos.atName
   let (f,first) ←holding [ov] (getMethod ov m pl)
   callWith pos f first (backTo pos (starEach (e::es) X.env)) (backToKw pos (keywordEach [] X.env))):=by rfl) :
  PE X (.Call (.Attribute o m apos) (e::es) [] pos) (Du C m sp dvs E ta t):=by
 intro aa s σ H Q I h
 refine W.methodCall_KW (pl:=pl) (thn (he aa s σ H _ I h) fun u s1 ⟨x,H1,I1,rx,a,dx,fs,ex,ea,l,q⟩=>?_) ht
 subst ex
 obtain rfl:u=Value.ref a:=rx
 refine sU I1 ea c hm l ?_
 refine W.callWith_K (first:=[.ref a]) (h₀:=X.base) I.ok.mod.kin hm.kp (thn (ha pos aa s1 σ H1 _ I1 q) fun us s2 ⟨vs,H2,I2,r,q2⟩=>⟨I2.kIn,?_⟩) hst hpl
 exact Am (us:=.ref a::us) (vs:=.ref a::vs) F hr hb hd hx I2 (.cons rfl r) q2
structure Mk (K:W.Frag) (C f:Addr):Prop where
 makes:W.makesIn K C=true
 init:W.findIn K (.ref C) "__init__"=some (some (.ref f))
 fn:W.isFn K (.ref f)=true
 kp:W.keepIn K (.ref C)=true
theorem wy {aa:List (Addr×Obj)}{σ:St}{H:Hp}{s:Shared}{Q:VK}{us:List Value}{vs:List V}(M:Mk X.K C f) (F:FnOk X.prog X.w X.K X.mg X.base CX k f fd ps sp) (hr:Room (k+1) X.A) (hb:cD X.K fd ps ds) (hd:az dvs ds)
  (hx:jh CX X E) (I:Inv X aa σ H s) (r:az vs us)
  (h:∀x dx,H x=none->H dx=none->dx≠x->sp (.ref x::(vs++dvs)) (upd (upd H dx (.own x)) x (.ins C dx [])) (fun v H2=>v=.non∧Q (.ref x) H2) E) :
  wpAny (model X.prog X.w) X.A (call (.ref C) us) (EP X aa σ Q) X.xe s:=by
 have hq:=h (s.heap.objs.size+1) s.heap.objs.size (I.hok.fresh (Nat.le_succ _)) (I.hok.fresh (Nat.le_refl _)) (Nat.ne_of_lt (Nat.lt_succ_self _))
 have I2:=Inv.made (C:=C) I
 have r2:az (V.ref (s.heap.objs.size+1)::(vs++dvs)) (Value.ref (s.heap.objs.size+1)::(us++ds)):=.cons rfl (r.append hd)
 have hl:(Value.ref (s.heap.objs.size+1)::us++ds).length=ps.length:=by
  have e:=r2.length
  rw[F.len _ _ _ _ hq] at e
  exact e.symm
 refine wpAny_call (wx (f:=f) I.kIn M.makes M.init (beq_iff_eq.mp M.fn) (codeAny_mono (F.run _ X.stack _ _ ⟨Value.ref (s.heap.objs.size+1)::us,[]⟩ (Value.ref (s.heap.objs.size+1)::(us++ds)) _ _ E (hr.make C us [])
  (I2.env0.make C us []) (hb _ (Value.ref (s.heap.objs.size+1)::us) I2.kIn hl) r2 hq) fun r s' hq'=>?_))
 cases r with
 | error e=>exact hx aa σ _ _ e s' I2 hq'
 | ok fl=>
  cases fl with
  | ret u=>
   obtain⟨v,H',I3,rv,ev,q3⟩:=I2.after hq'
   subst ev
   exact⟨rv,⟨V.ref (s.heap.objs.size+1),H',I3,rfl,q3⟩⟩
  | next=>exact False.elim hq'
  | brk=>exact False.elim hq'
  | cont=>exact False.elim hq'
theorem wz (M:Mk X.K C f) (F:FnOk X.prog X.w X.K X.mg X.base CX k f fd ps sp) (hr:Room (k+1) X.A) (hg:Gl X x) (hm:X.mg x=some (.ref C)) (hb:cD X.K fd ps ds) (hd:az dvs ds) (hx:jh CX X E)
  (hdb:(x==("__debug__":Str))=false:=by decide):PE X (.Call (.Name x p) [] [] pos) (Dv C sp dvs E Al):=by
 intro aa s σ H Q I h
 refine wpAny_Call_Name_kw (gS I hg hm ?_ hdb)
 exact W.callWith_K0 I.kIn M.kp (wy (us:=[]) M F hr hb hd hx I .nil h)
end
section
variable {X:Cx}{CX:CXT}{k:Nat}{f C:Addr}{fd:FuncData}{ps ks:List Str}{sp:Sp}{E:XK}{x m:Str}{p pos apos kpos:Pos}{e o:Expr}{es:List Expr}{kws:List Keyword}{te ta:TE}{t tk:TA}{nm:Option Str}
variable {g:List Value->List Value->List Value}{gV:List V->List V->List V}
end
structure FnScope (N P:List Str) (sc:Scope):Prop where
 kind:sc.kind=.function
 co:sc.isCoroutine=false
 gen:sc.isGenerator=false
 nd:N.Nodup
 pre:N.take P.length=P
 par:∀x∈P,sc.names.lookup x=some .local ∨sc.names.lookup x=some .cell
 nofree:∀y∈sc.names,y.2≠.free
theorem mS {kindOf:Str->Option NameKind}{x:Str}:∀{binds:List (Str×Value)}{m:Str->Option Value},(∀v,(x,v)∉binds)->bindL kindOf binds m x=m x
 | [],_,_=>rfl
 | (n,v)::r,m,h=>by
  unfold bindL
  rw[mS fun w hw=>h w (List.mem_cons_of_mem _ hw)]
  split
  ·have:x≠n:=by rintro rfl;exact h v List.mem_cons_self
   simp[this]
  ·rfl
theorem mT {kindOf:Str->Option NameKind}{x:Str}:∀{binds:List (Str×Value)}{m:Str->Option Value},(∀v,(x,v)∉binds)->bindC kindOf binds m x=m x
 | [],_,_=>rfl
 | (n,v)::r,m,h=>by
  unfold bindC
  rw[mT fun w hw=>h w (List.mem_cons_of_mem _ hw)]
  split
  ·rfl
  ·have:x≠n:=by rintro rfl;exact h v List.mem_cons_self
   simp[this]
theorem mU {kindOf:Str->Option NameKind}{x:Str}{v:Value}:∀{P:List Str}{vs:List Value}{i:Nat}{m:Str->Option Value},P.Nodup->P[i]?=some x->vs[i]?=some v->kindOf x=some .local ->
  bindL kindOf (P.zip vs) m x=some v
 | [],_,_,_,_,h,_,_=>by simp at h
 | _::_,[],_,_,_,_,h,_=>by simp at h
 | p::P,w::vs,0,m,nd,h1,h2,hk=>by
  simp at h1 h2;subst h1;subst h2
  show bindL kindOf ((p,w)::P.zip vs) m p=_
  unfold bindL
  rw[mS fun v hv=>(List.nodup_cons.mp nd).1 (List.of_mem_zip hv).1,if_pos hk]
  simp
 | p::P,w::vs,i+1,m,nd,h1,h2,hk=>by
  show bindL kindOf ((p,w)::P.zip vs) m x=_
  unfold bindL
  exact mU (i:=i) (List.nodup_cons.mp nd).2 (by simpa using h1) (by simpa using h2) hk
theorem mV {kindOf:Str->Option NameKind}{x:Str}{v:Value}:∀{P:List Str}{vs:List Value}{i:Nat}{m:Str->Option Value},P.Nodup->P[i]?=some x->vs[i]?=some v->kindOf x≠some .local ->
  bindC kindOf (P.zip vs) m x=some v
 | [],_,_,_,_,h,_,_=>by simp at h
 | _::_,[],_,_,_,_,h,_=>by simp at h
 | p::P,w::vs,0,m,nd,h1,h2,hk=>by
  simp at h1 h2;subst h1;subst h2
  show bindC kindOf ((p,w)::P.zip vs) m p=_
  unfold bindC
  rw[mT fun v hv=>(List.nodup_cons.mp nd).1 (List.of_mem_zip hv).1,if_neg hk]
  simp
 | p::P,w::vs,i+1,m,nd,h1,h2,hk=>by
  show bindC kindOf ((p,w)::P.zip vs) m x=_
  unfold bindC
  exact mV (i:=i) (List.nodup_cons.mp nd).2 (by simpa using h1) (by simpa using h2) hk
def fY (N:List Str) (vs:List V):St:=vs.map some++List.replicate (N.length-vs.length) none
def cQ (CX:CXT) (P:Program) (w:World) (K:W.Frag) (mg:Str->Option Value) (base:Heap) (N:List Str) (qual:Str) (scope:Scope) (f:Addr) (cd:Value) (A:Around) (outer:List Env) (s:Shared) (H:Hp) (E:XK):Cx where
 prog:=P
 w:=w
 K:=K
 mg:=mg
 base:=base
 A:=A.deeper (envOfC qual scope s.heap.objs.size f cd)
 N:=N
 s₀:=s
 H₀:=H
 env:=envOfC qual scope s.heap.objs.size f cd
 outer:=outer
 stack:=envOfC qual scope s.heap.objs.size f cd::outer
 ex:=[]
 calm:=true
 fn:=fun _=>true
 pn:=[]
 xe:=fun e s'=>wpAny (model P w) (A.deeper (envOfC qual scope s.heap.objs.size f cd)) (leaving (envOfC qual scope s.heap.objs.size f cd) e) (fun _ s''=>CX outer H s E e s'') (fun e' s''=>CX outer H s E e' s'') s'
theorem oP {sc:Scope}{n:Nat}{x:Str}(h:sc.names.lookup x=some .cell):∃c,(cellsFrom n sc.names []).lookup x=some c:=by
 have q:=W.cellsFrom_some sc.names n [] (.inl h)
 exact Option.isSome_iff_exists.mp q
theorem uM {CX:CXT}{P:Program}{w:World}{K:W.Frag}{mg:Str->Option Value}{base:Heap}{N ps:List Str}{qual:Str}{scope:Scope}{f:Addr}{cd:Value}{A:Around}{outer:List Env}{s s1:Shared}{H:Hp}{E:XK}{us:List Value}{vs:List V}
  (S:FnScope N ps scope) (hd:A.handled=none) (e0:Env0 P w K mg base A outer s H) (hl:vs.length=ps.length) (r:az vs us)
  (x:InCallC s s.heap.objs.size (bindL (envOfC qual scope s.heap.objs.size f cd).kindOf (ps.zip us) fun _=>none) (cellsFrom (s.heap.objs.size+1) scope.names []) (bindC (envOfC qual scope s.heap.objs.size f cd).kindOf (ps.zip us) fun _=>none) s1) :
  Inv (cQ CX P w K mg base N qual scope f cd A outer s H E) [] (fY N vs) H s1:=by
 have hpl:ps.length≤N.length:=by have:=congrArg List.length S.pre;rw[List.length_take] at this;omega
 obtain⟨h1,tk,rfl,hk⟩:=x.done
 have noA:∀b:Addr,b∉(cQ CX P w K mg base N qual scope f cd A outer s H E).ex:=fun b z=>absurd (show b∈([]:List Addr) from z) (by simp)
 refine⟨⟨e0.mod,S.kind,rfl,rfl,Nat.le_refl _,fun y z c h1 h2=>?_,fun y hy=>?_,fun y c _ h=>?_,fun _=>hd,Around.frames_deeper e0.frames,.inr ⟨rfl,rfl⟩,fun b z=>absurd z (noA b),e0.bs,e0.bsz,fun b _ _=>noA b,fun b z=>absurd z (noA b),e0.funs,e0.frf⟩,
  rfl,e0.bare,Un.kept hk,⟨_,x.toInCall.ns,fun i y v h1 h2 h3=>?_⟩,fun y c h=>⟨_,x.cell y c h⟩,e0.hok.fresh (Nat.le_refl _),fun y c h=>?_,fun p hp=>absurd (show p∈([]:List (Addr×Obj)) from hp) (by simp),e0.hok.kept hk,?_⟩
 ·exact name_of_addr x.apart (PySem.mem_of_lookup h1) (PySem.mem_of_lookup h2)
 ·have hy:scope.names.lookup y=some .cell∨scope.names.lookup y=some .free:=hy
  rcases hy with hy|hy
  ·exact oP hy
  ·exact absurd rfl (S.nofree _ (PySem.mem_of_lookup hy))
 ·exact Nat.le_of_lt (x.above y c (PySem.mem_of_lookup h))
 ·have hi:i<vs.length:=by
   unfold fY at h2
   by_cases hi:i<vs.length
   ·exact hi
   ·rw[List.getElem?_append_right (by simpa using hi)] at h2
    rw[List.getElem?_replicate] at h2
    split at h2 <;> cases h2
  have ha:vs[i]?=some v:=by
   unfold fY at h2
   rw[List.getElem?_append_left (by simpa using hi),List.getElem?_map] at h2
   cases e:vs[i]? with
   | none=>rw[e] at h2;cases h2
   | some a=>rw[e] at h2;cases h2;rfl
  obtain⟨u,hu,rv⟩:=r.get ha
  have hp:ps[i]?=some y:=by
   rw[←S.pre,List.getElem?_take_of_lt (by omega)];exact h1
  have ndP:ps.Nodup:=by rw[←S.pre];exact S.nd.sublist (List.take_sublist _ _)
  refine⟨u,rv,?_⟩
  rcases S.par y (List.mem_of_getElem? hp) with k|k
  ·exact .inl ⟨k,mU ndP hp hu k⟩
  ·obtain⟨c,e⟩:=oP (n:=s.heap.objs.size+1) k
   refine .inr ⟨.inl k,c,e,?_⟩
   have q:=x.cell y c e
   rw[mV ndP hp hu (by show scope.names.lookup y≠_;rw[k];decide)] at q
   exact q
 ·exact e0.hok.fresh (Nat.le_of_lt (x.above y c (PySem.mem_of_lookup h)))
 ·unfold fY
  show _=N.length
  rw[List.length_append,List.length_map,List.length_replicate]
  omega
theorem xS {CX:CXT}{P:Program}{w:World}{K:W.Frag}{mg:Str->Option Value}{base:Heap}{k:Nat}{f:Addr}{name qual:Str}{params:Arguments}{body:List Stmt}{scope:Scope}{dV kV doc pm cdv ct oc:Value}{an od:Option Addr}
  {osl:Array (Option Value)}{N ps:List Str}{sp:Sp}(lk:K.lookup f=some ⟨oc,od,.func (W.fnOf name qual params body scope dV kV doc pm an cdv ct),osl⟩) (hcd:W.codeIn K cdv qual=true) (S:FnScope N ps scope)
  (len:∀vs H Q E,sp vs H Q E->vs.length=ps.length)
  (hbody:∀(A:Around) (outer:List Env) (s:Shared) (H:Hp) (vs:List V) (Q:VK) (E:XK),Room k (A.deeper (envOfC qual scope s.heap.objs.size f cdv))->sp vs H Q E->
   ∃t,PSs (cQ CX P w K mg base N qual scope f cdv A outer s H E) body t∧t { nx:=fun _ H'=>Q .non H',rt:=Q } (fY N vs) H) :
  FnOk P w K mg base CX (k+1) f (W.fnOf name qual params body scope dV kV doc pm an cdv ct) ps sp:=by
 refine⟨len,fun A outer s H args us vs Q E hr e0 hb r hsp=>?_⟩
 have hl:=len _ _ _ _ hsp
 have KX:K.In s.heap:=e0.mod.kin.keeps fun b o e=>(e0.bs b o e).1
 have lim:s.heap.NoLimit:=e0.mod.nolimit.keeps fun b o e=>(e0.bs b o e).1
 have hkind:∀y∈ps.zip us,scope.names.lookup y.1=some .local ∨(scope.names.lookup y.1=some .cell∧((cellsFrom (s.heap.objs.size+1) scope.names []).lookup y.1).isSome=true):=fun⟨n,v⟩ hy=>by
  rcases S.par n (List.of_mem_zip hy).1 with q|q
  ·exact .inl q
  ·exact .inr ⟨q,W.cellsFrom_some _ _ _ (.inl q)⟩
 refine codeAny_call_function hr.depth (KX _ _ lk) rfl S.co S.gen rfl (W.codeRec_of KX hcd) (hb _ _ _ _ ?_)
 refine wpAny_newFunctionEnv_cells S.kind hkind fun env he s1 x=>?_
 subst he
 refine⟨lim.keeps x.toInCall.keep,codeAny_func ?_⟩
 obtain⟨t,ht,hq⟩:=hbody A outer s H vs Q E (hr.deeper _) hsp
 have I:Inv (cQ CX P w K mg base N qual scope f cdv A outer s H E) [] (fY N vs) H s1:=uM S hr.hd e0 hl r x
 refine wpAny_mono (ht [] s1 (fY N vs) H _ I hq) (fun fl s' hs=>?_) fun e s' hs=>hs
 have fin:∀{σ':St}{H':Hp}{v:V}{u:Value},Inv (cQ CX P w K mg base N qual scope f cdv A outer s H E) [] σ' H' s'->aF v u->Q v H'->CE outer P w H s Q u s':=
  fun {σ' H' v u} J rv q=>⟨v,H',J.os,J.bare,J.base,J.hok,rv,q⟩
 cases fl with
 | ret u=>
  obtain⟨v,σ',H',J,rv,q⟩:=hs
  exact fin J rv q
 | next=>
  obtain⟨σ',H',J,q⟩:=hs
  exact fin (v:=V.non) (u:=Value.none) J rfl q
 | brk=>
  obtain⟨_,_,_,q⟩:=hs
  exact False.elim q
 | cont=>
  obtain⟨_,_,_,q⟩:=hs
  exact False.elim q
end L2
namespace L2
open PySem PySem.Spec PyProof.Rows
section
variable {X:Cx}{x:Str}{p pos:Pos}{e:Expr}{es:List Expr}{t:TA}{id T:String}{r:List V->Hp->VK->Prop}
def tCB (r:List V->Hp->VK->Prop) (t:TA):TE:=fun σ H Q=>t σ H fun vs H1=>r vs H1 Q
theorem aB (hc:cS X (.builtin id) r) (hg:Gl X x) (hm:X.mg x=none) (hv:bootBuiltins x=some (.builtin id)) (ha:PA X (e::es) t) (hn:x≠"__name__":=by decide) (hdb:(x==("__debug__":Str))=false:=by decide)
  (he:starEach (e::es) X.env=(false,eval e X.env)::starEach es X.env:=by rfl) (hpl:(backTo pos (starEach es X.env)).any (·.1)=false:=by rfl):PE X (.Call (.Name x p) (e::es) [] pos) (tCB r t):=by
 intro aa s σ H Q I h
 refine wpAny_Call_Name_kw (lc I hg hm hv ?_ hn hdb)
 exact PyProof.Rows.callWith_builtin1 (thn (ha pos aa s σ H _ I h) fun us s1 ⟨vs,H1,I1,r1,q1⟩=>hc aa s1 σ H1 vs us Q I1 r1 q1) he hpl
theorem bz (hc:cS X (.type T) r) (hg:Gl X x) (hm:X.mg x=none) (hv:bootBuiltins x=some (.type T)) (ha:PA X (e::es) t) (hn:x≠"__name__":=by decide) (hdb:(x==("__debug__":Str))=false:=by decide)
  (he:starEach (e::es) X.env=(false,eval e X.env)::starEach es X.env:=by rfl) (hpl:(backTo pos (starEach es X.env)).any (·.1)=false:=by rfl):PE X (.Call (.Name x p) (e::es) [] pos) (tCB r t):=by
 intro aa s σ H Q I h
 refine wpAny_Call_Name_kw (lc I hg hm hv ?_ hn hdb)
 exact PyProof.Rows.callWith_type1 (thn (ha pos aa s σ H _ I h) fun us s1 ⟨vs,H1,I1,r1,q1⟩=>hc aa s1 σ H1 vs us Q I1 r1 q1) he hpl
end
end L2
namespace HT
open PySem PyProof.Rows
def bO:List Int->List Int->Bool
 | [],[]=>false
 | [],_::_=>true
 | _::_,[]=>false
 | x::xs,y::ys=>if x=y then bO xs ys else decide (x<y)
theorem dJ (x y:Int) (xs ys:List Int):bO (x::xs) (y::ys)=if x=y then bO xs ys else decide (x<y):=rfl
theorem zW:bO [] []=false:=rfl
theorem mn (y:Int) (ys:List Int):bO [] (y::ys)=true:=rfl
theorem mo (x:Int) (xs:List Int):bO (x::xs) []=false:=rfl
section
open PySem.SeqAt
open PySem.AutoSeq1 (wpAny_loadPart')
open PySem.MeetsSeq PySem.MeetsSeq2 PySem.MeetsSeq3
end
section
variable {prog:Program}{w:World}{A:Around}{E:Value->Shared->Prop}{s:Shared}
theorem yK {t b:Addr}{vs ws:List Value}{Q:Value->Shared->Prop}(ht:IsTup s.heap t vs.toArray) (hb:IsTup s.heap b ws.toArray) (hv:vs≠[])
  (h1:ws=[]->Q (.ref t) s) (h2:ws≠[]->Q (.ref s.heap.objs.size) { s with heap:=s.heap.push { cls:=.type "tuple",data:=.seq (vs++ws).toArray } })
  (hsz:vs.length+ws.length≤sizeLine):wpAny (model prog w) A (binaryOp .Add (.ref t) (.ref b)) Q E s:=by
 obtain⟨⟨cls,dd,data,sl⟩,ho,hc,n,hd⟩:=id ht
 obtain⟨⟨cls2,dd2,data2,sl2⟩,ho2,hc2,n2,hd2⟩:=id hb
 simp only at hc hd hc2 hd2
 subst hc hd hc2 hd2
 have e:vs.toArray++ws.toArray=(vs++ws).toArray:=by simp
 by_cases hw:ws=[]
 ·exact concat_meets ⟨_,ho,rfl⟩ ⟨_,ho2,rfl⟩ noFill_tuple_add seq_tuple_add PySem.F.slot_tuple_add PySem.F.entry_tuple_add (PySem.F.args_tuple_add_2 _ _)
   (tuple_addW1 t b vs.toArray ws.toArray n n2 dd dd2 sl sl2 (by simpa using hv) (by simp[hw])) ⟨ho,ho2,h1 hw⟩
 ·refine concat_meets ⟨_,ho,rfl⟩ ⟨_,ho2,rfl⟩ noFill_tuple_add seq_tuple_add PySem.F.slot_tuple_add PySem.F.entry_tuple_add (PySem.F.args_tuple_add_2 _ _)
   (tuple_addW2 t b vs.toArray ws.toArray n n2 dd dd2 sl sl2 (by simpa using hv) (by simpa using hw) (by rw[List.size_toArray,List.size_toArray];exact hsz)) ⟨ho,ho2,?_⟩
  rw[e]
  exact h2 hw
def sIx (n d:Nat):Option Int->Nat
 | none=>d
 | some v=>if v<0 then (v+(n:Int)).toNat else min v.toNat n
theorem kI (n d:Nat):sIx n d none=d:=rfl
theorem rD (n d k:Nat):sIx n d (some (k:Int))=min k n:=by
 show(if (k:Int)<0 then ((k:Int)+(n:Int)).toNat else min (k:Int).toNat n)=min k n
 rw[if_neg (by omega),Int.toNat_natCast]
theorem An (n d:Nat) (hd:d≤n) (o:Option Int):sIx n d o≤n:=by
 cases o with
 | none=>exact hd
 | some v=>
  show(if v<0 then (v+(n:Int)).toNat else min v.toNat n)≤n
  by_cases hv:v<0
  ·rw[if_pos hv];omega
  ·rw[if_neg hv];exact Nat.min_le_right _ _
theorem rE (v:Int) (n d:Nat):(if v<0 then max (v+(n:Int)) 0 else min v (n:Int))=((sIx n d (some v):Nat):Int):=by
 show(if v<0 then max (v+(n:Int)) 0 else min v (n:Int))=(((if v<0 then (v+(n:Int)).toNat else min v.toNat n):Nat):Int)
 by_cases hv:v<0
 ·simp only[if_pos hv];omega
 ·simp only[if_neg hv];omega
theorem sY (lo hi:Option Int) (n:Nat):Builtin.Slice.sliceAdjust lo hi 1 (n:Int)=(((sIx n 0 lo:Nat):Int),((sIx n n hi:Nat):Int)):=by
 have h1:¬((1:Int)<0):=by omega
 unfold Builtin.Slice.sliceAdjust
 simp only[h1,if_false]
 refine Prod.ext ?_ ?_
 ·cases lo with
  | none=>rfl
  | some v=>exact rE v n 0
 ·cases hi with
  | none=>rfl
  | some v=>exact rE v n n
theorem sZ (i j:Nat):Builtin.Slice.slicePlaces (i:Int) (j:Int) 1=j-i:=by
 unfold Builtin.Slice.slicePlaces
 have h1:(1:Int) > 0:=by omega
 simp only[h1,if_true,Int.ediv_one]
 split <;> omega
theorem lq {v:Value}{o:Option Int}{Q:Option Int->Shared->Prop}(p:IsPart v o) (h:Q o s):wpAny (model prog w) A (Builtin.Slice.slicePartIndex v) Q E s:=by
 cases p with
 | none=>exact slicePart_none h
 | int i t=>exact slicePart_int h
theorem gn {sl:Addr}{vl vu:Value}{lo hi:Option Int}{n:Nat}{Q:Int×Int×Nat->Shared->Prop}(hs:s.heap.IsSliceOf sl vl vu .none) (pl:IsPart vl lo) (pu:IsPart vu hi)
  (h:Q (((sIx n 0 lo:Nat):Int),1,sIx n n hi-sIx n 0 lo) s):wpAny (model prog w) A (Builtin.Slice.sliceApplied (.ref sl) (pure (n:Int))) Q E s:=by
 obtain⟨os,hos,hcs,hds⟩:=id hs
 unfold Builtin.Slice.sliceApplied Builtin.Slice.sliceFields
 refine wpAny_bind (wpAny_bind (wpAny_field hos hds (x:=vl) rfl (wpAny_bind (wpAny_field hos hds (x:=vu) rfl (wpAny_bind (wpAny_field hos hds (x:=.none) rfl (wpAny_pure ?_)))))))
 refine wpAny_bind (slicePart_none ?_)
 show wpAny _ _ (if ((1:Int)==0)=true then _ else _) _ _ s
 rw[if_neg (by decide)]
 refine wpAny_bind (lq pl (wpAny_bind (lq pu (wpAny_bind (wpAny_pure ?_)))))
 show wpAny _ _ (match Builtin.Slice.sliceAdjust lo hi 1 (n:Int) with|(lo,hi)=>pure (lo,(1:Int),Builtin.Slice.slicePlaces lo hi 1)) _ _ s
 rw[sY lo hi n]
 show wpAny _ _ (pure (((sIx n 0 lo:Nat):Int),(1:Int),Builtin.Slice.slicePlaces ((sIx n 0 lo:Nat):Int) ((sIx n n hi:Nat):Int) 1)) _ _ s
 rw[sZ]
 exact wpAny_pure h
theorem wA (xs:Array Value) (i k:Nat):((List.range k).filterMap fun(m:Nat)=>xs[((i:Int)+(m:Int)*1).toNat]?).toArray=((xs.toList.drop i).take k).toArray:=by
 have e:(fun(m:Nat)=>xs[((i:Int)+(m:Int)*1).toNat]?)=fun m=>xs[i+m]?:=by
  funext m
  have:((i:Int)+(m:Int)*1).toNat=i+m:=by omega
  rw[this]
 rw[e]
 have:=pick_run xs i k
 rw[List.filterMap_map] at this
 have e2:((fun x=>xs[x]?)∘fun x=>i+x)=fun m=>xs[i+m]?:=rfl
 rw[e2] at this
 rw[this]
theorem kh {t sl:Addr}{items:Array Value}{vl vu:Value}{lo hi:Option Int}{Q:Value->Shared->Prop}(ht:IsTup s.heap t items) (hs:s.heap.IsSliceOf sl vl vu .none) (pl:IsPart vl lo) (pu:IsPart vu hi)
  (hw:¬(sIx items.size 0 lo=0∧sIx items.size items.size hi=items.size))
  (h:Q (.ref s.heap.objs.size) { s with heap:=s.heap.push { cls:=.type "tuple",data:=.seq ((items.toList.drop (sIx items.size 0 lo)).take (sIx items.size items.size hi-sIx items.size 0 lo)).toArray } })
  (hsz:items.size≤sizeLine):wpAny (model prog w) A (getItem (.ref t) (.ref sl)) Q E s:=by
 have htake:sizeOk (.seq ((items.toList.drop (sIx items.size 0 lo)).take (sIx items.size items.size hi-sIx items.size 0 lo)).toArray):=by
  show((items.toList.drop (sIx items.size 0 lo)).take (sIx items.size items.size hi-sIx items.size 0 lo)).toArray.size≤sizeLine
  rw[List.size_toArray,List.length_take,List.length_drop,Array.length_toList]
  omega
 have hj:sIx items.size items.size hi≤items.size:=An _ _ (Nat.le_refl _) hi
 obtain⟨os,hos,hcs,hds⟩:=id hs
 have hTs:s.TypeIs (.ref sl) "slice":=⟨os,hos,hcs⟩
 unfold getItem
 try with_reducible refine wpAny_holding ?_
 first|refine wpAny_bind (wpAny_pure ?_)|skip
 refine wpAny_bind (wpAny_sequenceKey ht.typeIs (by decide) ?_)
 refine wpAny_bind (wpAny_callSpecial?_slot (name:=Str.ofString "__getitem__") ht.typeIs PyProof.Rows.slot_tuple_getitem
  (wpAny_call_entry PyProof.Rows.slot_tuple_getitem ht.typeIs entry_tuple_getitem ?_ (args_tuple_getitem _ _)))
 show wpAny _ _ (Builtin.Tuple.tupleItemsOf (.ref t) >>= _) _ _ s
 refine wpAny_bind (tupleItemsOf_ ht ?_)
 refine wpAny_bind (wpAny_typeOf hTs ?_)
 rw[if_pos (by decide)]
 refine wpAny_bind (gn hs pl pu ?_)
 have hno:¬((((sIx items.size 0 lo:Nat):Int)==0&&(1:Int)==1&&(sIx items.size items.size hi-sIx items.size 0 lo)==items.size)=true):=by
  intro q
  rw[Bool.and_eq_true,Bool.and_eq_true] at q
  have q1:((sIx items.size 0 lo:Nat):Int)=0:=eq_of_beq q.1.1
  have q2:sIx items.size items.size hi-sIx items.size 0 lo=items.size:=eq_of_beq q.2
  exact hw ⟨by omega,by omega⟩
 show wpAny _ _ (if (((sIx items.size 0 lo:Nat):Int)==0&&(1:Int)==1&&(sIx items.size items.size hi-sIx items.size 0 lo)==items.size)=true then _ else _) _ _ s
 rw[if_neg hno,wA]
 first
  | exact wpAny_bind (m:=Builtin.Tuple.tupleExact _) (wpAny_newObj_type (wpAny_pure ⟨_,rfl,wpAny_pure h⟩) htake)
  | exact wpAny_bind (m:=Builtin.Tuple.tupleExact _) (wpAny_newObj_type (wpAny_bind (wpAny_pure (wpAny_pure ⟨_,rfl,wpAny_pure h⟩))) htake)
  | exact wpAny_bind (wpAny_bind (m:=Builtin.Tuple.tupleExact _) (wpAny_newObj_type (wpAny_pure (wpAny_pure ⟨_,rfl,wpAny_pure h⟩)) htake))
  | exact wpAny_bind (wpAny_bind (m:=Builtin.Tuple.tupleExact _) (wpAny_newObj_type (wpAny_pure ⟨_,rfl,wpAny_pure h⟩) htake))
end
end HT
namespace L2
open PySem PySem.Spec PyProof.Rows
abbrev TO:=St->Hp->(Option Int->Hp->Prop)->Prop
def PO (X:Cx) (e:Option Expr) (t:TO):Prop:=
 ∀(aa:List (Addr×Obj)) (s:Shared) (σ:St) (H:Hp) (Q:Option Int->Hp->Prop),Inv X aa σ H s->t σ H Q->
  wpAny (model X.prog X.w) X.A (evalPart e X.env) (fun u s'=>∃o H',Inv X aa σ H' s'∧IsPart u o∧Q o H') X.xe s
def yL:TO:=fun _ H Q=>Q none H
def Dw (t:TE):TO:=fun σ H Q=>t σ H fun x H1=>∃i,x=.int i∧Q (some i) H1
theorem tf {ns:List Int}:∀{us:List Value},az (ns.map V.int) us->IntsAre us ns:=by
 induction ns with
 | nil=>intro us r;rw[List.map_nil] at r;cases r;exact .nil
 | cons n ns ih=>
  intro us r
  rw[List.map_cons] at r
  cases r with
  | cons r1 r2=>
   obtain⟨t,e⟩:=r1
   subst e
   exact .cons n t (ih r2)
section
variable {X:Cx}{e:Expr}{te:TE}{lo hi:Option Expr}{tl th:TO}{pos p2:Pos}
theorem bR:PO X none yL:=by
 intro aa s σ H Q I h
 rw[evalPart_none]
 exact wpAny_pure ⟨none,H,I,.none,h⟩
theorem bS (h:PE X e te):PO X (some e) (Dw te):=by
 intro aa s σ H Q I hw
 rw[evalPart_some]
 refine thn (h aa s σ H _ I hw) fun u s1 ⟨x,H1,I1,r1,q1⟩=>?_
 obtain⟨i,rfl,q⟩:=q1
 obtain⟨t,rfl⟩:=r1
 exact⟨some i,H1,I1,.int i t,q⟩
def SlR (X:Cx) (r:V->Option Int->Option Int->Hp->VK->Prop):Prop:=
 ∀(aa:List (Addr×Obj)) (s:Shared) (σ:St) (H:Hp) (x:V) (v vl vu:Value) (lo hi:Option Int) (sl:Addr) (Q:VK),Inv X aa σ H s->aF x v->s.heap.IsSliceOf sl vl vu .none->IsPart vl lo->IsPart vu hi->r x lo hi H Q->
  ∃T id,typeLookup (.type T) "__getitem__"=pure (some (.builtin id))∧s.TypeIs v T∧wpAny (model X.prog X.w) X.A (getItem v (.ref sl)) (EP X aa σ Q) X.xe s
def tSl (r:V->Option Int->Option Int->Hp->VK->Prop) (te:TE) (tl th:TO):TE:=fun σ H Q=>te σ H fun x H1=>tl σ H1 fun l H2=>th σ H2 fun u H3=>r x l u H3 Q
theorem bC {r:V->Option Int->Option Int->Hp->VK->Prop}(hr:SlR X r) (he:PE X e te) (hl:PO X lo tl) (hu:PO X hi th):PE X (.Subscript e (.Slice lo hi none p2) pos) (tSl r te tl th):=by
 intro aa s σ H Q I h
 refine Subscript_ (thn (he aa s σ H _ I h) fun v s1 ⟨x,H1,I1,r1,q1⟩=>?_)
 refine wpAny_Slice (thn (hl aa s1 σ H1 _ I1 q1) fun vl s2 ⟨l,H2,I2,pl,q2⟩=>thn (hu aa s2 σ H2 _ I2 q2) fun vu s3 ⟨u,H3,I3,pu,q3⟩=>?_)
 rw[evalPart_none]
 refine wpAny_pure ?_
 have I4:Inv X aa σ H3 { s3 with heap:=s3.heap.push { cls:=.type "slice",data:=.fields #[vl,vu,.none] } }:=I3.kept (t':=s3.toks) fun b ob q=>Heap.get?_push_of_some _ q
 obtain⟨T,id,hT,ht,hg⟩:=hr aa { s3 with heap:=s3.heap.push { cls:=.type "slice",data:=.fields #[vl,vu,.none] } } σ H3 x v vl vu l u s3.heap.objs.size Q I4 r1 (Heap.IsSliceOf.new ..) pl pu q3
 show wpAny (model X.prog X.w) X.A (subscriptTail e (.Slice lo hi none p2) v (.ref s3.heap.objs.size)) (EP X aa σ Q) X.xe { s3 with heap:=s3.heap.push { cls:=.type "slice",data:=.fields #[vl,vu,.none] } }
 exact tail_any (ops:=[.ref s3.heap.objs.size,v]) ht hT hg (by with_unfolding_all rfl)
def aW (xs:List V) (lo hi:Option Int):List V:=(xs.drop (HT.sIx xs.length 0 lo)).take (HT.sIx xs.length xs.length hi-HT.sIx xs.length 0 lo)
theorem kq (xs:List V) (lo hi:Option Int):(aW xs lo hi).length≤xs.length:=by
 unfold aW
 rw[List.length_take,List.length_drop]
 omega
def Ao (K:W.Frag):V->Option Int->Option Int->Hp->VK->Prop:=fun x lo hi H Q=>∃a xs,x=.ref a∧SqT K H a xs∧
 ¬(HT.sIx xs.length 0 lo=0∧HT.sIx xs.length xs.length hi=xs.length)∧∀p,H p=none->Q (.ref p) (upd H p (.tup (aW xs lo hi)))
theorem uN:SlR X (Ao X.K):=by
 intro aa s σ H x v vl vu lo hi sl Q I rx hs pl pu h
 obtain⟨a,xs,rfl,hx,hw,q⟩:=h
 cases rx
 obtain⟨its,r,ht,hz⟩:=I.tuple hx
 have hlen:its.toArray.size=xs.length:=by rw[List.size_toArray];exact r.length.symm
 refine⟨"tuple",_,PyProof.Rows.slot_tuple_getitem.lookup,ht.typeIs,?_⟩
 refine HT.kh ht hs pl pu (by rw[hlen];exact hw) ?_ (by rw[hlen];exact hz)
 rw[hlen]
 refine⟨.ref s.heap.objs.size,_,I.laid (t':=s.toks) (o:=.tup (aW xs lo hi)) (fun b ob q=>Heap.get?_push_of_some _ q) (Nat.le_refl _) ?_,rfl,q _ (I.hok.fresh (Nat.le_refl _))⟩
 exact⟨Nat.le_trans (kq xs lo hi) hz,_,(r.drop (HT.sIx xs.length 0 lo)).take (HT.sIx xs.length xs.length hi-HT.sIx xs.length 0 lo),IsTup.new _ _⟩
def xT (K:W.Frag):R2:=fun x y H Q=>∃a b xs ys,x=.ref a∧y=.ref b∧SqT K H a xs∧SqT K H b ys∧xs≠[]∧xs.length+ys.length≤sizeLine∧
 (ys=[]->Q (.ref a) H)∧(ys≠[]->∀p,H p=none->Q (.ref p) (upd H p (.tup (xs++ys))))
theorem az.nil_iff {xs:List V}{us:List Value}(r:az xs us):us=[]↔xs=[]:=by
 cases r with
 | nil=>simp
 | cons _ _=>simp
theorem rF:OpR X (binaryOp .Add) (xT X.K):=by
 intro aa s σ H x y v u Q I rx ry h
 obtain⟨a,b,xs,ys,rfl,rfl,ha,hb,hx,hz,q1,q2⟩:=h
 cases rx
 cases ry
 obtain⟨its,r1,p1,_⟩:=I.tuple ha
 obtain⟨its2,r2,p2,_⟩:=I.tuple hb
 refine HT.yK p1 p2 (fun z=>hx (r1.nil_iff.mp z)) (fun z=>⟨.ref a,H,I,rfl,q1 (r2.nil_iff.mp z)⟩) (fun z=>?_) (by rw[←r1.length,←r2.length];exact hz)
 refine⟨.ref s.heap.objs.size,_,I.laid (t':=s.toks) (o:=.tup (xs++ys)) (fun b ob q=>Heap.get?_push_of_some _ q) (Nat.le_refl _) ?_,rfl,q2 (fun w=>z (r2.nil_iff.mpr w)) _ (I.hok.fresh (Nat.le_refl _))⟩
 exact⟨by rw[List.length_append];exact hz,_,r1.append r2,IsTup.new _ _⟩
end
end L2
namespace L2
open PySem PySem.Spec PyProof.Rows
def ixN (n:Nat) (i:Int):Option Nat:=if 0≤i then (if i<n then some i.toNat else none) else if -(n:Int)≤i then some (i+n).toNat else none
def atI {α:Type}(xs:List α) (i:Int):Option α:=(ixN xs.length i).bind fun j=>xs[j]?
theorem yM {n:Nat}{i:Int}{j:Nat}(h:ixN n i=some j):seqIndex? i n=some j∧j<n∧-(n:Int)≤i∧i<n:=by
 unfold ixN at h
 by_cases h0:0≤i
 ·rw[if_pos h0] at h
  by_cases h1:i<n
  ·rw[if_pos h1] at h
   have e:i.toNat=j:=Option.some.inj h
   exact⟨by rw[seqIndex_of h0 h1,e],by omega,by omega,h1⟩
  ·rw[if_neg h1] at h;cases h
 ·rw[if_neg h0] at h
  by_cases h1:-(n:Int)≤i
  ·rw[if_pos h1] at h
   have e:(i+n).toNat=j:=Option.some.inj h
   exact⟨by rw[seqIndex_neg (by omega) h1,e],by omega,h1,by omega⟩
  ·rw[if_neg h1] at h;cases h
theorem rH {α:Type}{xs:List α}{i:Int}{v:α}(h:atI xs i=some v):∃j,seqIndex? i xs.length=some j∧xs[j]?=some v∧j<xs.length∧-(xs.length:Int)≤i∧i<xs.length:=by
 unfold atI at h
 cases e:ixN xs.length i with
 | none=>rw[e] at h;cases h
 | some j=>
  rw[e] at h
  obtain⟨h1,h2,h3,h4⟩:=yM e
  exact⟨j,h1,h,h2,h3,h4⟩
theorem aX {α:Type}{xs:List α}{j:Nat}{v:α}(h:xs[j]?=some v):atI xs (j:Int)=some v:=by
 have hj:j<xs.length:=(List.getElem?_eq_some_iff.mp h).1
 have e:ixN xs.length (j:Int)=some j:=by
  unfold ixN
  rw[if_pos (by omega),if_pos (by omega)];simp
 unfold atI;rw[e];exact h
def yN (b:Expr):Prop:=∀o i,subscripted b false o i=operate [o,i] (getItem o i)
def IxR (X:Cx) (r:R2):Prop:=
 ∀(value slice:Expr) (aa:List (Addr×Obj)) (s:Shared) (σ:St) (H:Hp) (x y:V) (v u:Value) (Q:VK),Inv X aa σ H s->aF x v->aF y u->r x y H Q->
  subscripted slice false v u=operate [v,u] (getItem v u)->wpAny (model X.prog X.w) X.A (subscriptTail value slice v u) (EP X aa σ Q) X.xe s
def MtR (X:Cx) (id:String) (r:V->List V->Hp->VK->Prop):Prop:=
 ∀(aa:List (Addr×Obj)) (s:Shared) (σ:St) (H:Hp) (x:V) (xs:List V) (v:Value) (us:List Value) (Q:VK),Inv X aa σ H s->aF x v->az xs us->r x xs H Q->
  wpAny (model X.prog X.w) X.A (call (.builtin id) (v::us)) (EP X aa σ Q) X.xe s
section
variable {X:Cx}{a b:Expr}{ta tb:TE}{pos:Pos}
theorem aU {r:R2}(hr:IxR X r) (ha:PE X a ta) (hb:PE X b tb) (hs:yN b):PE X (.Subscript a b pos) (tOp r ta tb):=by
 intro aa s σ H Q I h
 exact Subscript_ (wt ha hb I h fun v u s2 x y H2 I2 rx ry q=>hr a b aa s2 σ H2 x y v u Q I2 rx ry q (hs _ _))
def dA (K:W.Frag):R2:=fun x y H Q=>∃p xs i v,x=.ref p∧y=.int i∧SqL K H p xs∧atI xs i=some v∧Q v H
def bZ (K:W.Frag):R2:=fun x y H Q=>∃p xs i v,x=.ref p∧y=.int i∧SqT K H p xs∧atI xs i=some v∧Q v H
theorem bI:IxR X (dA X.K):=by
 intro value slice aa s σ H x y v u Q I rx ry h hs
 obtain⟨p,xs,i,z,rfl,rfl,hq,he,q⟩:=h
 cases rx
 obtain⟨t,rfl⟩:=ry
 obtain⟨its,r,pl,hz⟩:=I.list hq
 obtain⟨j,h1,h2,h3,h4,h5⟩:=rH he
 obtain⟨w,ew,rw'⟩:=r.get h2
 have hl:=r.length
 have hn:=lm
 have fin:EP X aa σ Q w s:=⟨z,H,I,rw',q⟩
 by_cases h0:0≤i
 ·have hj:i.toNat=j:=by
   rw[seqIndex_of h0 h5] at h1
   exact Option.some.inj h1
  exact item_listR pl.isList h0 (by omega) (by rw[hj];simpa using ew) fin hs
 ·have hj:(i+(its.toArray.size:Int)).toNat=j:=by
   rw[seqIndex_neg (by omega) h4] at h1
   rw[List.size_toArray,←hl]
   exact Option.some.inj h1
  exact subscriptTail_builtinR (x:=w) pl.isList.typeIs slot_list_getitem.lookup
   (wpAny_getItem_list_neg (Q:=fun r s'=>r=w∧EP X aa σ Q r s') pl.isList (by omega) (by rw[List.size_toArray] <;> omega) (by omega) (by rw[hj];simpa using ew) ⟨rfl,fin⟩) hs
theorem bv:IxR X (bZ X.K):=by
 intro value slice aa s σ H x y v u Q I rx ry h hs
 obtain⟨p,xs,i,z,rfl,rfl,hq,he,q⟩:=h
 cases rx
 obtain⟨t,rfl⟩:=ry
 obtain⟨its,r,pl,hz⟩:=I.tuple hq
 obtain⟨j,h1,h2,h3,h4,h5⟩:=rH he
 obtain⟨w,ew,rw'⟩:=r.get h2
 have hl:=r.length
 have hn:=lm
 have fin:EP X aa σ Q w s:=⟨z,H,I,rw',q⟩
 exact subscriptTail_builtinR (x:=w) pl.typeIs slot_tuple_getitem.lookup
  (getItem_tuple (j:=j) (Q:=fun r s'=>r=w∧EP X aa σ Q r s') pl (by omega) (by omega) (by rw[List.size_toArray,←hl];exact h1) (by simpa using ew) ⟨rfl,fin⟩) hs
theorem oQ (lo hi:Option Int) (n:Nat):(sliceBounds lo hi none n).1=((HT.sIx n 0 lo:Nat):Int)∧(sliceBounds lo hi none n).2.1=((HT.sIx n n hi:Nat):Int)∧(sliceBounds lo hi none n).2.2=1:=by
 refine⟨?_,?_,rfl⟩
 ·cases lo with
  | none=>simp[sliceBounds,HT.sIx]
  | some i=>
   simp only[sliceBounds,HT.sIx,Option.getD_none,show(1:Int) > 0 by decide,if_true]
   by_cases h:i<0
   ·simp only[h,if_true] <;> omega
   ·simp only[h,if_false] <;> omega
 ·cases hi with
  | none=>simp[sliceBounds,HT.sIx]
  | some i=>
   simp only[sliceBounds,HT.sIx,Option.getD_none,show(1:Int) > 0 by decide,if_true]
   by_cases h:i<0
   ·simp only[h,if_true] <;> omega
   ·simp only[h,if_false] <;> omega
theorem nZ (its:List Value) (lo hi:Option Int):slicePick its.toArray lo hi none=((its.drop (HT.sIx its.length 0 lo)).take (HT.sIx its.length its.length hi-HT.sIx its.length 0 lo)).toArray:=by
 obtain⟨h1,h2,h3⟩:=oQ lo hi its.toArray.size
 unfold slicePick
 rw[h1,h2,h3]
 simp only[sliceRange_one,pick_run,List.size_toArray] <;> rfl
def iz (K:W.Frag):V->Option Int->Option Int->Hp->VK->Prop:=fun x lo hi H Q=>∃a xs,x=.ref a∧SqL K H a xs∧∀p,H p=none->Q (.ref p) (upd H p (.lst (aW xs lo hi)))
theorem dj:SlR X (iz X.K):=by
 intro aa s σ H x v vl vu lo hi sl Q I rx hs pl pu h
 obtain⟨a,xs,rfl,hx,q⟩:=h
 cases rx
 obtain⟨its,r,ht,hz⟩:=I.list hx
 have hlen:=r.length
 refine⟨"list",_,slot_list_getitem.lookup,ht.isList.typeIs,?_⟩
 refine wpAny_getItem_list_slice ht.isList hs pl pu .none (by simp) ?_ (by rw[List.size_toArray] <;> omega)
 rw[nZ,←hlen]
 refine⟨.ref s.heap.objs.size,_,I.laid (t':=s.toks) (o:=.lst (aW xs lo hi)) (fun b ob q=>Heap.get?_push_of_some _ q) (Nat.le_refl _) ?_,rfl,q _ (I.hok.fresh (Nat.le_refl _))⟩
 exact⟨Nat.le_trans (kq xs lo hi) hz,_,0,(r.drop (HT.sIx xs.length 0 lo)).take (HT.sIx xs.length xs.length hi-HT.sIx xs.length 0 lo),Heap.get?_push_size _ rfl⟩
def cz:V->Bool
 | .non=>true
 | .bl _=>true
 | .int _=>true
 | .str _=>true
 | _=>false
def eqV:V->V->Bool
 | .non,.non=>true
 | .bl a,.bl b=>a==b
 | .bl a,.int b=>(if a then 1 else 0)==b
 | .int a,.bl b=>a==(if b then 1 else 0)
 | .int a,.int b=>a==b
 | .str a,.str b=>a==b
 | _,_=>false
theorem uO {A:Around}{s:Shared}{y x:V}{u v:Value}(ry:aF y u) (rx:aF x v) (fy:cz y=true) (fx:cz x=true):SeqAt.EqAt A s u v (eqV y x):=by
 cases y with
 | non=>
  cases ry
  cases x with
  | non=>cases rx;exact SeqAt.EqAt.same _
  | bl b=>cases rx;exact SeqAt.EqAt.none_bool b
  | int b=>obtain⟨t,rfl⟩:=rx;exact SeqAt.EqAt.none_int b t
  | str b=>obtain⟨t,rfl⟩:=rx;exact SeqAt.EqAt.none_str b t
  | _=>exact absurd (show false=true from fx) Bool.false_ne_true
 | bl a=>
  cases ry
  cases x with
  | non=>cases rx;exact SeqAt.EqAt.bool_none a
  | bl b=>cases rx;exact SeqAt.EqAt.bool_bool a b
  | int b=>obtain⟨t,rfl⟩:=rx;exact SeqAt.EqAt.bool_int a b t
  | str b=>obtain⟨t,rfl⟩:=rx;exact SeqAt.EqAt.bool_str a b t
  | _=>exact absurd (show false=true from fx) Bool.false_ne_true
 | int a=>
  obtain⟨t',rfl⟩:=ry
  cases x with
  | non=>cases rx;exact SeqAt.EqAt.int_none a t'
  | bl b=>cases rx;exact SeqAt.EqAt.int_bool a t' b
  | int b=>obtain⟨t,rfl⟩:=rx;exact SeqAt.EqAt.int_int a t' b t
  | str b=>obtain⟨t,rfl⟩:=rx;exact SeqAt.EqAt.int_str a t' b t
  | _=>exact absurd (show false=true from fx) Bool.false_ne_true
 | str a=>
  obtain⟨t',rfl⟩:=ry
  cases x with
  | non=>cases rx;exact SeqAt.EqAt.str_none a t'
  | bl b=>cases rx;exact SeqAt.EqAt.str_bool a t' b
  | int b=>obtain⟨t,rfl⟩:=rx;exact SeqAt.EqAt.str_int a t' b t
  | str b=>obtain⟨t,rfl⟩:=rx;exact SeqAt.EqAt.str_str a t' b t
  | _=>exact absurd (show false=true from fx) Bool.false_ne_true
 | _=>exact absurd (show false=true from fy) Bool.false_ne_true
def eqU (x:V) (u:Value):Bool:=match u with
 | .none=>eqV .non x
 | .bool b=>eqV (.bl b) x
 | .int i _=>eqV (.int i) x
 | .str z _=>eqV (.str z) x
 | _=>false
theorem ls {x y:V}{u:Value}(r:aF y u) (f:cz y=true):eqU x u=eqV y x:=by
 cases y with
 | non=>cases r;rfl
 | bl b=>cases r;rfl
 | int i=>obtain⟨t,rfl⟩:=r;rfl
 | str z=>obtain⟨t,rfl⟩:=r;rfl
 | _=>exact absurd (show false=true from f) Bool.false_ne_true
theorem gY {x:V}:∀{xs:List V}{us:List Value},az xs us->xs.all cz=true->us.any (eqU x)=xs.any fun y=>eqV y x
 | _,_,.nil,_=>rfl
 | y::xs,u::us,.cons r t,f=>by
  rw[List.all_cons,Bool.and_eq_true] at f
  rw[List.any_cons,List.any_cons,ls r f.1,gY t f.2]
theorem eM {A:Around}{s:Shared}{x:V}{v:Value}(rx:aF x v) (fx:cz x=true):∀{xs:List V}{us:List Value},az xs us->xs.all cz=true->∀u∈us,SeqAt.EqAt A s u v (eqU x u)
 | _,_,.nil,_=>fun u hu=>by cases hu
 | y::xs,u::us,.cons r t,f=>fun u' hu=>by
  rw[List.all_cons,Bool.and_eq_true] at f
  rcases List.mem_cons.mp hu with rfl|hu
  ·rw[ls r f.1];exact uO r rx f.1 fx
  ·exact eM rx fx t f.2 u' hu
def inV (x:V) (xs:List V):Bool:=xs.any fun y=>eqV y x
def rIn (K:W.Frag) (neg:Bool):R2:=fun x y H Q=>∃p xs,y=.ref p∧(SqL K H p xs∨SqT K H p xs)∧cz x=true∧xs.all cz=true∧Q (.bl (if neg then !inV x xs else inV x xs)) H
theorem mW:OpR X (compareOp .In) (rIn X.K false):=by
 intro aa s σ H x y v u Q I rx ry h
 obtain⟨p,xs,rfl,hq,fx,fs,q⟩:=h
 cases ry
 rcases hq with hq|hq
 ·obtain⟨its,r,pl,hz⟩:=I.list hq
  refine SeqAt.in_listAt (eqU x) pl.isList (fun w hw=>eM rx fx r fs w (by simpa using hw)) ⟨.bl _,H,I,rfl,?_⟩
  rw[show its.toArray.any (eqU x)=its.any (eqU x) by simp,gY r fs]
  exact q
 ·obtain⟨its,r,pl,hz⟩:=I.tuple hq
  refine SeqAt.in_tupleAt (eqU x) pl (fun w hw=>eM rx fx r fs w (by simpa using hw)) ⟨.bl _,H,I,rfl,?_⟩
  rw[show its.toArray.any (eqU x)=its.any (eqU x) by simp,gY r fs]
  exact q
theorem oS:OpR X (compareOp .NotIn) (rIn X.K true):=by
 intro aa s σ H x y v u Q I rx ry h
 obtain⟨p,xs,rfl,hq,fx,fs,q⟩:=h
 cases ry
 rcases hq with hq|hq
 ·obtain⟨its,r,pl,hz⟩:=I.list hq
  refine SeqAt.notIn_listAt (eqU x) pl.isList (fun w hw=>eM rx fx r fs w (by simpa using hw)) ⟨.bl _,H,I,rfl,?_⟩
  rw[show its.toArray.any (eqU x)=its.any (eqU x) by simp,gY r fs]
  exact q
 ·obtain⟨its,r,pl,hz⟩:=I.tuple hq
  refine SeqAt.notIn_tupleAt (eqU x) pl (fun w hw=>eM rx fx r fs w (by simpa using hw)) ⟨.bl _,H,I,rfl,?_⟩
  rw[show its.toArray.any (eqU x)=its.any (eqU x) by simp,gY r fs]
  exact q
theorem aR:cS X (.builtin "len") (fun xs H Q=>∃p ys,xs=[.ref p]∧(SqL X.K H p ys∨SqT X.K H p ys)∧Q (.int ys.length) H):=by
 intro aa s σ H xs us Q I r h
 obtain⟨p,ys,rfl,hq,q⟩:=h
 obtain⟨u,rfl,rx⟩:=eE r
 cases rx
 have hn:=lm
 rcases hq with hq|hq
 ·obtain⟨its,r',pl,hz⟩:=I.list hq
  have hlen:=r'.length
  exact Calls.call_len_list pl.isList (by simp only[List.size_toArray] <;> omega) ⟨.int ys.length,H,I.tok _,⟨s.toks+1,by rw[List.size_toArray,hlen]⟩,q⟩
 ·obtain⟨its,r',pl,hz⟩:=I.tuple hq
  have hlen:=r'.length
  exact len_tuple pl (by simp only[List.size_toArray] <;> omega) ⟨.int ys.length,H,I.tok _,⟨s.toks+1,by rw[List.size_toArray,hlen]⟩,q⟩
theorem oU:cS X (.type "list") (fun xs H Q=>∃p ys,xs=[.ref p]∧(SqL X.K H p ys∨SqT X.K H p ys)∧∀l,H l=none->Q (.ref l) (upd H l (.lst ys))):=by
 intro aa s σ H xs us Q I r h
 obtain⟨p,ys,rfl,hq,q⟩:=h
 obtain⟨u,rfl,rx⟩:=eE r
 cases rx
 have fin:∀(its:List Value),az ys its->ys.length≤sizeLine->∀(h':Heap) (c':Nat),(∀b o',s.heap.get? b=some o'->h'.get? b=some o')->
   h'.get? s.heap.objs.size=some { cls:=.type "list",dict:=none,data:=.seq its.toArray c',slots:=#[] }->EP X aa σ Q (.ref s.heap.objs.size) { s with heap:=h' }:=fun its r' hz h' c' kp e=>
  ⟨.ref s.heap.objs.size,_,I.laid (t':=s.toks) kp (Nat.le_refl _) (show bc X.prog X.w _ h' _ (.lst ys) from⟨hz,its,c',r',e⟩),rfl,q _ (I.hok.fresh (Nat.le_refl _))⟩
 rcases hq with hq|hq
 ·obtain⟨its,r',pl,hz⟩:=I.list hq
  have hlen:=r'.length
  obtain⟨o,ho,hc,n,hd⟩:=pl.isList
  exact call_list_seq p (.inl rfl) ho hc hd (fun h' c' kp e=>fin its r' hz h' c' kp e) (by simp only[List.size_toArray] <;> omega)
 ·obtain⟨its,r',pl,hz⟩:=I.tuple hq
  have hlen:=r'.length
  obtain⟨o,ho,hc,n,hd⟩:=pl
  exact call_list_seq p (.inr rfl) ho hc hd (fun h' c' kp e=>fin its r' hz h' c' kp e) (by simp only[List.size_toArray] <;> omega)
theorem eF:cS X (.type "tuple") (fun xs H Q=>∃p ys,xs=[.ref p]∧((SqL X.K H p ys∧∀l,H l=none->Q (.ref l) (upd H l (.tup ys)))∨(SqT X.K H p ys∧Q (.ref p) H))):=by
 intro aa s σ H xs us Q I r h
 obtain⟨p,ys,rfl,h⟩:=h
 obtain⟨u,rfl,rx⟩:=eE r
 cases rx
 rcases h with⟨hq,q⟩|⟨hq,q⟩
 ·obtain⟨its,r',pl,hz⟩:=I.list hq
  have hlen:=r'.length
  refine call_tuple_list pl.isList (fun h' kp=>?_) (by simp only[List.size_toArray] <;> omega)
  have I1:Inv X aa σ H { s with heap:=h' }:=I.kept (t':=s.toks) kp
  have I2:Inv X aa σ (upd H h'.objs.size (.tup ys)) { s with heap:=h'.push { cls:=.type "tuple",data:=.seq its.toArray } }:=
   I1.laid (t':=s.toks) (fun b o e=>Heap.get?_push_of_some _ e) (Nat.le_refl _) (show bc X.prog X.w _ _ _ (.tup ys) from⟨hz,its,r',IsTup.new _ _⟩)
  exact⟨.ref h'.objs.size,_,I2,rfl,q _ (I1.hok.fresh (Nat.le_refl _))⟩
 ·obtain⟨its,r',pl,hz⟩:=I.tuple hq
  exact call_tuple_same pl ⟨.ref p,H,I,rfl,q⟩
def tyV (K:W.Frag) (T:String) (x:V) (H:Hp):Prop:=match x with
 | .str _=>T="str"
 | .int _=>T="int"
 | .ref p=>(T="list"∧∃xs,SqL K H p xs)∨(T="tuple"∧∃o,K.lookup p=some o∧o.cls=.type "tuple"∧o.dict=none)∨
   (T="dict"∧((∃kvs,H p=some (.dK kvs))∨∃kvs,H p=some (.dT kvs)))∨(T="set"∧∃S n,H p=some (.set S n))
 | _=>False
theorem Ap {aa:List (Addr×Obj)}{σ:St}{H:Hp}{s:Shared}{T:String}{x:V}{v:Value}(I:Inv X aa σ H s) (r:aF x v) (ty:tyV X.K T x H) :
  s.TypeIs v T∧∀a,v=.ref a->∃ob,s.heap.get? a=some ob∧ob.dict=none:=by
 cases x with
 | str z=>
  obtain⟨t,rfl⟩:=r
  cases (show T="str" from ty)
  exact⟨typeIs_str s z t,fun _ e=>nomatch e⟩
 | int i=>
  obtain⟨t,rfl⟩:=r
  cases (show T="int" from ty)
  exact⟨typeIs_int s i t,fun _ e=>nomatch e⟩
 | ref p=>
  cases r
  rcases ty with⟨rfl,xs,hq⟩|⟨rfl,o,hk,hc,hd⟩|⟨rfl,hk⟩|⟨rfl,S,n,hk⟩
  ·obtain⟨its,_,pl,_⟩:=I.list hq
   refine⟨pl.isList.typeIs,fun a e=>?_⟩
   cases e
   obtain⟨o,n,e,c,hd,_⟩:=pl
   exact⟨o,e,hd⟩
  ·refine⟨⟨o,I.kIn p o hk,hc⟩,fun a e=>?_⟩
   cases e
   exact⟨o,I.kIn _ o hk,hd⟩
  ·have z:∃o,s.heap.get? p=some o∧o.ExactDict:=by
    rcases hk with⟨kvs,hk⟩|⟨kvs,hk⟩
    ·obtain⟨_,_,_,_,o,_,_,e,ex,_⟩:=I.hok p _ hk
     exact⟨o,e,ex⟩
    ·obtain⟨_,_,_,_,o,_,_,e,ex,_⟩:=I.hok p _ hk
     exact⟨o,e,ex⟩
   obtain⟨o,e,ex⟩:=z
   refine⟨⟨o,e,ex.1⟩,fun a e2=>?_⟩
   cases e2
   exact⟨o,e,ex.2.1⟩
  ·obtain⟨o,_,_,_,e,ex,_⟩:=I.hok p _ hk
   refine⟨⟨o,e,ex.1⟩,fun a e2=>?_⟩
   cases e2
   exact⟨o,e,ex.2.1⟩
 | _=>exact False.elim ty
def tBM (K:W.Frag) (T:String) (r:V->List V->Hp->VK->Prop) (to:TE) (t:TA):TE:=fun σ H Q=>to σ H fun x H1=>tyV K T x H1∧t σ H1 fun xs H2=>r x xs H2 Q
variable {o e:Expr}{es:List Expr}{to:TE}{t:TA}{name:Str}{apos cpos:Pos}{T id:String}{r:V->List V->Hp->VK->Prop}
theorem eG (pa:PlainAttrs T) (slot:Slot T name id) (hty:typeOf (.builtin id)=pure (.type "method_descriptor")) (hm:MtR X id r) (ho:PE X o to) (ha:PA X (e::es) t)
  (hbase:attributeBase o name X.env (eval o X.env)=eval o X.env:=by rfl)
  (hfew:((backTo cpos (starEach (e::es) X.env)).all (fun x=>!x.1)&&(backToKw cpos (keywordEach [] X.env)).all (fun x=>x.1.isSome)
   && decide ((e::es).length+([]:List Keyword).length+(if ([]:List Keyword).isEmpty then 0 else 1)<30))=true:=by rfl)
  (hline:(apos.endLine==cpos.line)=true:=by rfl) (hs:starEach (e::es) X.env=(false,eval e X.env)::starEach es X.env:=by rfl) (hplain:(backTo cpos (starEach es X.env)).any (·.1)=false:=by rfl) :
  PE X (.Call (.Attribute o name apos) (e::es) [] cpos) (tBM X.K T r to t):=by
 intro aa s σ H Q I h
 refine wpAny_Call_method_late hbase hfew hline rfl (thn (ho aa s σ H _ I h) fun v s1 ⟨x,H1,I1,r1,ty,q1⟩=>?_)
 obtain⟨h1,h2⟩:=Ap I1 r1 ty
 refine⟨T,id,pa,slot,hty,h1,h2,?_⟩
 have hA:=ha cpos aa s1 σ H1 _ I1 q1
 rw[hs] at hA ⊢
 refine Calls.callWith_builtin (by show(false||(backTo cpos (starEach es X.env)).any (·.1))=false;rw[hplain] <;> rfl) (Calls.evalArgs_plain ?_)
 exact thn hA fun us s2 ⟨vs,H2,I2,r2,q2⟩=>hm aa s2 σ H2 x vs v us Q I2 r1 r2 q2
end
end L2
namespace L2
open PySem PySem.Spec PyProof.Rows
def MtM (X:Cx) (id:String) (r:V->List V->Hp->VK->Prop):Prop:=
 ∀(aa:List (Addr×Obj)) (s:Shared) (σ:St) (H:Hp) (x:V) (xs:List V) (v:Value) (us:List Value) (Q:VK),Inv X aa σ H s->aF x v->az xs us->r x xs H Q->
  wpAny (model X.prog X.w) X.A (call (.builtin id) (v::us)) (EP X aa σ Q) X.xe s
theorem az.one:∀{x:V}{us:List Value},az [x] us->∃u,us=[u]∧aF x u
 | _,_,.cons r .nil=>⟨_,rfl,r⟩
theorem az.two:∀{x y:V}{us:List Value},az [x,y] us->∃u v,us=[u,v]∧aF x u∧aF y v
 | _,_,_,.cons r (.cons q .nil)=>⟨_,_,rfl,r,q⟩
theorem az.rep {xs:List V}{us:List Value}(h:az xs us):∀k:Nat,az (List.replicate k xs).flatten (List.replicate k us).flatten
 | 0=>.nil
 | k+1=>by
  rw[List.replicate_succ,List.replicate_succ,List.flatten_cons,List.flatten_cons]
  exact az.append h (az.rep h k)
theorem mX (its:List Value):∀(k:Nat) (acc:List Value),
  List.foldl (fun x1 x2=>x1++x2) acc.toArray (List.replicate k its.toArray)=(acc++(List.replicate k its).flatten).toArray
 | 0,acc=>by simp
 | k+1,acc=>by
  have e:acc.toArray++its.toArray=(acc++its).toArray:=by simp
  have e2:(acc++its)++(List.replicate k its).flatten=acc++(List.replicate (k+1) its).flatten:=by
   rw[List.replicate_succ,List.flatten_cons,List.append_assoc]
  rw[←e2,←mX its k (acc++its),←e,List.replicate_succ,List.foldl_cons]
section
variable {X:Cx}{aa:List (Addr×Obj)}{σ:St}{H:Hp}{s:Shared}{l b:Addr}{xs ys zs:List V}
theorem Inv.lset {its its':List Value}{n:Nat}{f:Array Value->Array Value}{t':Nat}(I:Inv X aa σ H s) (hH:H l=some (.lst xs))
  (e:s.heap.get? l=some { cls:=.type "list",data:=.seq its.toArray n }) (hf:f its.toArray=its'.toArray) (hv:az ys its') (hz:ys.length≤sizeLine) :
  Inv X aa σ (upd H l (.lst ys)) { s with heap:=s.heap.update l (Obj.mapSeq f),toks:=t' }:=by
 have q:=PySem.IsL.update e f
 rw[hf] at q
 refine I.write (x:=l) (e:=l) (by rw[hH];exact trivial) (.inl rfl) (fun b' u hb hu=>(Heap.get?_update_other s.heap (Obj.mapSeq f) (Ne.symm hb)).trans hu) ⟨_,q⟩ ?_
 exact⟨hz,its',_,hv,q⟩
theorem Inv.lnew {its:List Value}{t':Nat}(I:Inv X aa σ H s) (hv:az ys its) (hz:ys.length≤sizeLine) :
  Inv X aa σ (upd H s.heap.objs.size (.lst ys)) { s with heap:=s.heap.push { cls:=.type "list",data:=.seq its.toArray },toks:=t' }:=
 I.laid (fun _ _ q=>Heap.get?_push_of_some _ q) (Nat.le_refl _) ⟨hz,its,0,hv,Heap.get?_push_size _ rfl⟩
theorem Inv.fresh (I:Inv X aa σ H s):H s.heap.objs.size=none:=I.hok.fresh (Nat.le_refl _)
theorem Inv.lstM (I:Inv X aa σ H s) (hH:H l=some (.lst xs)):xs.length≤sizeLine∧∃(its:List Value) (n:Nat),az xs its∧xs.length=its.length∧s.heap.get? l=some { cls:=.type "list",data:=.seq its.toArray n }:=by
 obtain⟨z,its,n,r,e⟩:=I.hok l _ hH
 exact⟨z,its,n,r,r.length,e⟩
theorem oV {n:Nat}(h:n≤sizeLine):Builtin.List.listTooLong n=false:=by
 unfold Builtin.List.listTooLong
 exact decide_eq_false (by omega)
end
section
variable {X:Cx}
def yO:V->List V->Hp->VK->Prop:=fun x vs H Q=>∃l xs y,x=.ref l∧vs=[y]∧H l=some (.lst xs)∧xs.length<sizeLine∧Q .non (upd H l (.lst (xs++[y])))
theorem dB:MtM X "list.append" yO:=by
 intro aa s σ H x vs v us Q I rx rv h
 obtain⟨l,xs,y,rfl,rfl,hH,hz,q⟩:=h
 cases rx
 obtain⟨u,rfl,ru⟩:=rv.one
 obtain⟨z,its,n,r,hl,e⟩:=I.lstM hH
 refine call_meets F.slot_list_append ⟨_,e,rfl⟩ F.entry_list_append (F.args_list_append_2 _ _) (PySem.list_append l its.toArray n u (by rw[List.size_toArray];omega)) ⟨e,?_⟩
 refine⟨.non,_,I.lset (its':=its++[u]) hH e (by simp) (r.append (.cons ru .nil)) ?_,rfl,q⟩
 rw[List.length_append,List.length_singleton]
 omega
def yP:V->List V->Hp->VK->Prop:=fun x vs H Q=>∃l b xs zs,x=.ref l∧vs=[.ref b]∧H l=some (.lst xs)∧H b=some (.lst zs)∧xs.length+zs.length≤sizeLine∧Q .non (upd H l (.lst (xs++zs)))
theorem uP:MtM X "list.extend" yP:=by
 intro aa s σ H x vs v us Q I rx rv h
 obtain⟨l,b,xs,zs,rfl,rfl,hH,hB,hz,q⟩:=h
 cases rx
 obtain⟨u,rfl,ru⟩:=rv.one
 cases ru
 obtain⟨z,its,n,r,hl,e⟩:=I.lstM hH
 obtain⟨z2,its2,n2,r2,hl2,e2⟩:=I.lstM hB
 have hsz:its.toArray.size+its2.toArray.size≤sizeLine:=by rw[List.size_toArray,List.size_toArray];omega
 have hlong:¬(!its.toArray.isEmpty&&Builtin.List.listTooLong (its.toArray.size+its2.toArray.size))=true:=by
  rw[oV hsz,Bool.and_false]
  exact Bool.false_ne_true
 refine call_meets F.slot_list_extend ⟨_,e,rfl⟩ F.entry_list_extend (F.args_list_extend_2 _ _)
  (AutoSeq1.list_extend_list_list_0 l its.toArray n b its2.toArray n2 hlong (by rw[List.size_toArray];omega) (by omega)) ⟨e,e2,?_⟩
 refine⟨.non,_,I.lset (its':=its++its2) hH e (by simp) (r.append r2) ?_,rfl,q⟩
 rw[List.length_append]
 omega
def EE:R2:=fun x y H Q=>∃l b xs zs,x=.ref l∧y=.ref b∧H l=some (.lst xs)∧H b=some (.lst zs)∧xs.length+zs.length≤sizeLine∧∀p,H p=none->Q (.ref p) (upd H p (.lst (xs++zs)))
theorem cV:OpR X (binaryOp .Add) EE:=by
 intro aa s σ H x y v u Q I rx ry h
 obtain⟨l,b,xs,zs,rfl,rfl,hH,hB,hz,q⟩:=h
 cases rx
 cases ry
 obtain⟨z,its,n,r,hl,e⟩:=I.lstM hH
 obtain⟨z2,its2,n2,r2,hl2,e2⟩:=I.lstM hB
 refine PySem.P.add_list e e2 ?_ (by rw[List.size_toArray,List.size_toArray];omega)
 have ea:its.toArray++its2.toArray=(its++its2).toArray:=by simp
 rw[ea]
 exact⟨.ref _,_,I.lnew (t':=s.toks) (r.append r2) (by rw[List.length_append];omega),rfl,q _ I.fresh⟩
def EF:R2:=fun x y H Q=>∃l k xs,x=.ref l∧y=.int k∧H l=some (.lst xs)∧-(2 ^ 63)≤k∧k<2 ^ 63∧xs.length*k.toNat≤sizeLine∧
 ∀p,H p=none->Q (.ref p) (upd H p (.lst (List.replicate k.toNat xs).flatten))
theorem yQ {α:Type}(xs:List α) (k:Nat):(List.replicate k xs).flatten.length=k*xs.length:=by
 induction k with
 | zero=>simp
 | succ k ih=>rw[List.replicate_succ,List.flatten_cons,List.length_append,ih,Nat.succ_mul,Nat.add_comm]
theorem uQ:OpR X (binaryOp .Mult) EF:=by
 intro aa s σ H x y v u Q I rx ry h
 obtain⟨l,k,xs,rfl,rfl,hH,h1,h2,hz,q⟩:=h
 cases rx
 obtain⟨t,rfl⟩:=ry
 obtain⟨z,its,n,r,hl,e⟩:=I.lstM hH
 have hlen:its.toArray.size*k.toNat≤sizeLine:=by rw[List.size_toArray,←hl];exact hz
 have hcap:¬its.toArray.size*k.toNat > (2 ^ 63-1) / 8:=by
  have:(sizeLine:Nat)≤(2 ^ 63-1) / 8:=by decide
  omega
 have hfit:¬(!Builtin.List.listFitsIndex k)=true:=by
  rw[fitsIndex_both h1 h2]
  exact Bool.false_ne_true
 have hlong:¬Builtin.List.listTooLong (its.toArray.size*k.toNat)=true:=by
  rw[oV hlen]
  exact Bool.false_ne_true
 have hnew:List.foldl (fun x1 x2=>x1++x2) #[] (List.replicate (if its.toArray.isEmpty=true then 0 else k.toNat) its.toArray)=(List.replicate k.toNat its).flatten.toArray:=by
  have f0:∀m:Nat,List.foldl (fun x1 x2=>x1++x2) #[] (List.replicate m its.toArray)=(List.replicate m its).flatten.toArray:=fun m=>by
   have:=mX its m []
   rw[List.nil_append] at this
   exact this
  rw[f0]
  cases its with
  | nil=>simp
  | cons a r'=>rw[if_neg (by simp)]
 refine wpAny_binaryOp_repeat_ref (T:="list") (U:="int") (by decide) ⟨_,e,rfl⟩ (fun s'=>typeIs_int s' k t) noFill_list_mul F.fills_int_mul F.slot_int_rmul repeat_list F.slot_int_index.lookup
  (call_meets F.slot_int_rmul (typeIs_int s k t) F.entry_int_rmul (F.args_int_rmul_2 _ _) (int___rmul___int_list k t l its.toArray n)
   ⟨e,rfl,⟨_,e,rfl⟩,call_meets F.slot_list_mul ⟨_,e,rfl⟩ F.entry_list_mul (F.args_list_mul_2 _ _) (AutoListH.list___mul___list_int_3 l its.toArray n k t hfit hcap hlong) ⟨e,?_⟩⟩)
 rw[hnew]
 exact⟨.ref _,_,I.lnew (t':=s.toks) (r.rep k.toNat) (by rw[yQ,Nat.mul_comm];exact hz),rfl,q _ I.fresh⟩
end
section
variable {prog:Program}{w:World}{A:Around}{E:Value->Shared->Prop}{s:Shared}
set_option maxRecDepth 100000 in
end
section
variable {X:Cx}
end
end L2
namespace Att
open PySem PySem.W PySem.Calls PyProof.Rows
theorem lu {P:Params}{h:Heap}:∀(ns:List Int) (vs:List Value),WellAll P h vs (ns.map WData.int)->IntsAre vs ns:=by
 intro ns
 induction ns with
 | nil=>
  intro vs w
  rw[List.map_nil] at w
  cases w
  exact .nil
 | cons n ns ih=>
  intro vs w
  rw[List.map_cons] at w
  cases w with
  | cons a b=>
   cases a
   exact .cons _ _ (ih _ b)
theorem uR {l:OpenLaw}{n:Nat}(hn:l.most=some n) {P:Params}{h:Heap}{args:List WData}{vals:List Value}
  (hpre:l.row.toRowW.claim.pre args=true) (hwl:WellAll P h vals args) :
  ∃a vs ns,vals=[Value.ref a]∧args=[WData.list (ns.map WData.int)]∧h.get? a=some { cls:=.type "list",data:=.seq vs.toArray }∧IntsAre vs ns∧ns.length≤n:=by
 have hsh:WShape.hasAll [] args [.list .int]=true:=(pre_splitW hpre).1
 have hc:l.pre.holds [] { args:=args }=true:=(pre_splitW hpre).2
 obtain⟨d,r,rfl,h1,h2⟩:=hasAllW_cons hsh
 obtain rfl:=hasAllW_nil h2
 obtain⟨xs,rfl,h3⟩:=hasW_list h1
 obtain⟨ns,rfl⟩:=items_int h3
 have hlen:ns.length≤n:=by
  unfold OpenLaw.pre at hc
  have h4:(WTm.not (.lt (.lit (.int (n:Int))) (.len (.arg 0)))).holds [] { args:=[.list (ns.map .int)] }=true:=by
   have h4:=(holds_andW hc).1
   rw[hn] at h4
   exact h4
  have h5:=condW_of h4 (w_not (w_lt w_lit (w_len_list (w_arg rfl))))
  rw[List.length_map] at h5
  refine Nat.le_of_not_lt fun q=>?_
  have q':(n:Int)<((ns.length:Nat):Int):=by omega
  first
   | (rw[decide_eq_true q'] at h5;exact absurd h5 (by decide))
   | (simp at h5;omega)
 cases hwl with
 | cons w1 w2=>
  cases w2
  cases w1 with
  | list ho hall=>exact⟨_,_,ns,rfl,rfl,ho,lu ns _ hall,hlen⟩
theorem uS (l:OpenLaw) (args:List WData):l.row.toRowW.claim.post args (.bool true) args=true:=
 postW_of (r:=l.row.toRowW) (X:=(true==true))
  (show WShape.has [] (.bool true) .bool=true by first|rfl|decide|simp[WShape.has,WShape.arms,WShape.armsAll])
  (show(WTm.eq .res (.lit (.bool true))).value [] { args:=args,res:=some (.bool true),after:=args }=some (.bool (true==true)) from w_eq_bool (w_res rfl) w_lit) rfl
theorem qZ {l:OpenLaw}{n:Nat}{q:Program}{loose:List Str}{XP:(Str->Option Value)->Heap->Prop}{YP:World->Heap->Prop}{d:DefRec}
  (hn:l.most=some n) (hdf:d.params.defaults=[])
  (call:∀(w:World) (s₀ s₁:Shared) (mg mb:Str->Option Value) (fa:Addr) (o:Obj) (pm cd doc:Value) (a:Addr) (vs:List Value) (ns:List Int),
   Ground q loose [] XP w s₀ mg mb s₁.heap->YP w s₁.heap->
   s₁.heap.get? fa=some o->o.data=.func (docDef d.name d.params d.body d.scope pm cd doc)->s₁.heap.CodeRec cd d.name->mg d.name=some (.ref fa)->
   s₁.heap.get? a=some { cls:=.type "list",data:=.seq vs.toArray }->IntsAre vs ns->ns.length≤n->s₁.gens=#[]->
   codeAny (model l.prog w) callerA (.call (.ref fa) ⟨[.ref a],[]⟩) (fun r s'=>r=.ok (.ret (.bool true))∧OldK s₁.heap s'.heap∧s'.os=s₁.os∧AllBare s'.gens) s₁) :
  WalkO q loose XP YP l.row.toRowW d [] (fun f vs=>PySem.call f vs):=by
 intro w s₀ s₁ mg mb G Y fa o pm cd doc dV kV ho hd hcd hD hmg hg args vals as hpre hlay hrd hwl hlo
 obtain rfl:dV=.none:=Dflts.none hD hdf
 obtain rfl:kV=.none:=Dflts.noKw hD
 obtain⟨a,vs,ns,rfl,rfl,hobj,hints,hlen⟩:=uR hn hpre hwl
 refine enter_call (codeAny_mono (call w s₀ s₁ mg mb fa o pm cd doc a vs ns G Y ho (fd_plain hd) hcd hmg hobj hints hlen hg) fun r s' hq=>?_)
 obtain⟨rfl,h2,h3,h4⟩:=hq
 exact⟨.inl ⟨.bool true,.bool true,[],rfl,fun _=>rfl,.bool true,uS l _,fun _=>⟨List.Pairwise.nil,fun _ hm=>(nomatch hm)⟩⟩,h2,h3,h4⟩
section
variable {prog:Program}{w:World}{A:Around}{E:Value->Shared->Prop}{s:Shared}{K:Frag}
end
end Att
namespace L2
open PySem PySem.Spec PyProof.Rows
theorem ji:∀{vs:List Value}{ns:List Int},IntsAre vs ns->az (ns.map V.int) vs
 | _,_,.nil=>.nil
 | _,_,.cons n t h=>.cons ⟨t,rfl⟩ (ji h)
def wB (H:Hp):Prop:=∀b,H b=none∨∃o xs,H b=some (.frz o (.lst xs))
theorem wC {P:Program}{w:World}{K:W.Frag}{mg mb:Str->Option Value}{CX:CXT}{k:Nat}{fa a:Addr}{fd:FuncData}{x:Str}{sp:Sp}{s₁:Shared}{vs:List Value}{ns:List Int}
  (KX:K.In s₁.heap) (hns:s₁.heap.Ns mainGlobals mg) (hb:s₁.heap.Ns builtinsNs mb) (hbb:∀x:Str,x≠"__name__"->mb x=bootBuiltins x) (hlim:s₁.heap.NoLimit) (hg:s₁.gens=#[])
  (ha:s₁.heap.get? a=some { cls:=.type "list",data:=.seq vs.toArray }) (hi:IntsAre vs ns) (hl:ns.length≤sizeLine) (hr:Room k callerA)
  (F:∀base:Heap,K.In base->base.Ns mainGlobals mg->FnOk P w K mg base CX k fa fd [x] sp) (hbind:∀(s:Shared) (u:Value),BindsTo s fd ⟨[u],[]⟩ [(x,u)])
  (hsp:∀H:Hp,wB H->SqL K H a (ns.map V.int)->sp [.ref a] H (fun v _=>v=.bl true) fun _ _ _=>False)
  (hCX:∀H e s',CX [] H s₁ (fun _ _ _=>False) e s'->False) :
  codeAny (model P w) callerA (.call (.ref fa) ⟨[.ref a],[]⟩) (fun r s'=>r=.ok (.ret (.bool true))∧OldK s₁.heap s'.heap∧s'.os=s₁.os∧AllBare s'.gens) s₁:=by
 have rv:=ji hi
 have lenV:=hi.length
 have core:∀H:Hp,wB H->SqL K H a (ns.map V.int)->HOk P w H s₁.heap->(∀b,H b≠none->b=a)->(H a≠none->K.lookup a=none)->
   codeAny (model P w) callerA (.call (.ref fa) ⟨[.ref a],[]⟩) (fun r s'=>r=.ok (.ret (.bool true))∧OldK s₁.heap s'.heap∧s'.os=s₁.os∧AllBare s'.gens) s₁:=by
  intro H hO hS hok hA hK
  have base_of:∀{b:Addr}{o:Obj},s₁.heap.get? b=some o->H b=none->(iw s₁.heap H).get? b=some o:=fun e n=>wn e n
  have noA:∀{b:Addr}{o:Obj}{es:Array DictEntry}{ep:Nat},s₁.heap.get? b=some o->o.data=.dict es ep->H b=none:=fun {b o es ep} e d=>by
   cases q:H b with
   | none=>rfl
   | some u=>
    have e':b=a:=hA b (by rw[q];simp)
    subst e'
    rw[ha] at e;cases e
    have d':Data.seq vs.toArray _=Data.dict es ep:=d
    cases d'
  have nsK:∀{b:Addr}{m:Str->Option Value},s₁.heap.Ns b m->(iw s₁.heap H).Ns b m:=fun {b m} ⟨o,es,ep,e,d,r⟩=>⟨o,es,ep,base_of e (noA e d),d,r⟩
  have hKb:K.In (iw s₁.heap H):=fun b o e=>base_of (KX b o e) (by
   cases q:H b with
   | none=>rfl
   | some u=>
    have e':b=a:=hA b (by rw[q];simp)
    subst e'
    rw[hK (by rw[q];simp)] at e;cases e)
  have hM:Mod K mg (iw s₁.heap H):=⟨hKb,nsK hns,⟨mb,nsK hb,hbb⟩,let ⟨mc,h1,h2⟩:=hlim;⟨mc,nsK h1,h2⟩⟩
  have e0:Env0 P w K mg (iw s₁.heap H) callerA [] s₁ H:=⟨rfl,hM,fun b o e=>yE e,Nat.le_of_eq (uA _ _),trivial,fun b hb=>absurd (show b∈([]:List Addr) from hb) (by simp),hok,.of_eq hg⟩
  refine codeAny_mono ((F _ hKb (nsK hns)).run callerA [] s₁ H ⟨[.ref a],[]⟩ [.ref a] [.ref a] _ _ hr e0 (hbind s₁ (.ref a)) (.cons rfl .nil) (hsp H hO hS)) fun r s' h=>?_
  cases r with
  | error e=>exact(hCX H e s' h).elim
  | ok fl=>
   cases fl with
   | next=>exact False.elim h
   | brk=>exact False.elim h
   | cont=>exact False.elim h
   | ret u=>
    obtain⟨v,H',os,bare,un,hok',r',q⟩:=h
    have q':v=.bl true:=q
    subst q'
    obtain rfl:u=Value.bool true:=r'
    refine⟨rfl,OldK.of_keep fun b o e=>?_,os,bare⟩
    cases q:H b with
    | none=>exact un.keep b o e q (by intro z;exact absurd (show b∈([]:List Addr) from z) (by simp)) (by simp)
    | some u=>
     rcases hO b with z|⟨ob,xs,z⟩
     ·rw[q] at z;cases z
     ·have z2:=un.frzs b ob _ z
      obtain⟨e1,_⟩:=hok b _ z
      obtain⟨e2,_⟩:=hok' b _ z2
      rw[e] at e1;cases e1
      exact e2
 cases hk:K.lookup a with
 | some o=>
  have e:=KX a o hk
  rw[ha] at e
  cases e
  refine core (fun _=>none) (fun _=>.inl rfl) (.inr ⟨_,vs.toArray,_,hk,rfl,rfl,rfl,by rw[List.size_toArray,lenV];exact hl,by simpa using rv⟩) (fun b u z=>by have z':(none:Option HO)=some u:=z;cases z') (fun b z=>absurd rfl z) fun z=>absurd rfl z
 | none=>
  refine core (fun b=>if b=a then some (.frz { cls:=.type "list",data:=.seq vs.toArray } (.lst (ns.map V.int))) else none) (fun b=>?_) (.inl (.inr ⟨{ cls:=.type "list",data:=.seq vs.toArray },if_pos rfl⟩)) (fun b u z=>?_) (fun b z=>?_) fun _=>hk
  ·by_cases hb:b=a
   ·exact .inr ⟨_,_,if_pos hb⟩
   ·exact .inl (if_neg hb)
  ·by_cases hb:b=a
   ·have z':=(if_pos hb).symm.trans z
    cases z'
    subst hb
    exact⟨ha,by rw[List.length_map];exact hl,vs,_,rv,ha⟩
   ·have z':=(if_neg hb).symm.trans z
    cases z'
  ·by_cases hb:b=a
   ·exact hb
   ·exact absurd (if_neg hb) z
end L2
namespace L2
open PySem PySem.Spec PyProof.Rows
theorem yR {l:W.OpenLaw}{n k:Nat}{q:Program}{loose:List Str}{XP:(Str->Option Value)->Heap->Prop}{YP:World->Heap->Prop}{d:DefRec}{K:Params->W.Frag}{CX:World->CXT}{sp:World->Sp}{x:Str}
  (hn:l.most=some n) (hn2:n≤sizeLine) (hdf:d.params.defaults=[]) (hr:Room k callerA)
  (hY:∀(w:World) (h:Heap),YP w h->(K w.params).In h)
  (F:∀(w:World) (mg:Str->Option Value) (fa:Addr) (h:Heap),(K w.params).In h->h.Ns mainGlobals mg->mg d.name=some (.ref fa)->
   ∃fd:FuncData,(∀(s:Shared) (u:Value),BindsTo s fd ⟨[u],[]⟩ [(x,u)])∧
    ∀base:Heap,(K w.params).In base->base.Ns mainGlobals mg->FnOk l.prog w (K w.params) mg base (CX w) k fa fd [x] (sp w))
  (hsp:∀(w:World) (H:Hp) (a:Addr) (ns:List Int),ns.length≤n->wB H->SqL (K w.params) H a (ns.map V.int)->sp w [.ref a] H (fun v _=>v=.bl true) fun _ _ _=>False)
  (hCX:∀(w:World) (H:Hp) (s:Shared) (e:Value) (s':Shared),CX w [] H s (fun _ _ _=>False) e s'->False) :
  W.WalkO q loose XP YP l.row.toRowW d [] (fun f vs=>PySem.call f vs):=by
 refine Att.qZ hn hdf fun w s₀ s₁ mg mb fa o pm cd doc a vs ns G Y ho hd hcd hmg hobj hints hlen hg=>?_
 have KX:=hY w _ Y
 obtain⟨fd,hb,hF⟩:=F w mg fa _ KX G.T.g hmg
 exact wC KX G.T.g G.T.b G.T.builtins G.T.nolimit hg hobj hints (Nat.le_trans hlen hn2) hr hF hb (fun H hO hS=>hsp w H a ns hlen hO hS) fun H e s'=>hCX w H s₁ e s'
end L2
namespace L2
open PySem PySem.Spec PyProof.Rows
def dq (s:Stmt):Arguments:=match s with
 | .FunctionDef _ a _ _ _ _ _ _ _ _=>a
 | _=>{ posonlyargs:=[],args:=[],vararg:=none,kwonlyargs:=[],kw_defaults:=[],kwarg:=none,defaults:=[] }
def cC (s:Stmt):List Stmt:=match s with
 | .FunctionDef _ _ b _ _ _ _ _ _ _=>b
 | _=>[]
def ap (s:Stmt):Scope:=match s with
 | .FunctionDef _ _ _ _ _ _ sc _ _ _=>sc
 | _=>{ kind:=.function,names:=[],isGenerator:=false,isCoroutine:=false }
abbrev CX0:CXT:=fun _ _ _ _ _ _=>False
abbrev E0:XK:=fun _ _ _=>False
theorem xU {X:Cx}:jh CX0 X E0:=fun _ _ _ _ _ _ _ h=>h.elim
structure Fun (K:W.Frag) (x qual:Str) (st:Stmt) (f:Addr) (fd:FuncData):Prop where
 ex:∃(oc:Value) (od:Option Addr) (kV doc pm:Value) (an:Option Addr) (cdv ct:Value) (osl:Array (Option Value)),
  fd=W.fnOf x qual (dq st) (cC st) (ap st) .none kV doc pm an cdv ct∧K.lookup f=some ⟨oc,od,.func fd,osl⟩∧W.codeIn K cdv qual=true
 kp:W.keepIn K (.ref f)=true
section
variable {P:Program}{w:World}{K:W.Frag}{mg:Str->Option Value}{base:Heap}
theorem Fun.ok {x qual:Str}{st:Stmt}{f:Addr}{fd:FuncData}{N ps:List Str}{k:Nat}{sp:Sp}(F:Fun K x qual st f fd) (S:FnScope N ps (ap st)) (len:∀vs H Q E,sp vs H Q E->vs.length=ps.length)
  (hbody:∀(cdv:Value) (A:Around) (outer:List Env) (s:Shared) (H:Hp) (vs:List V) (Q:VK) (E:XK),Room k (A.deeper (envOfC qual (ap st) s.heap.objs.size f cdv))->sp vs H Q E->
   ∃t,PSs (cQ CX0 P w K mg base N qual (ap st) f cdv A outer s H E).nox (cC st) t∧t { nx:=fun _ H'=>Q .non H',rt:=Q } (fY N vs) H):FnOk P w K mg base CX0 (k+1) f fd ps sp:=by
 obtain⟨oc,od,kV,doc,pm,an,cdv,ct,osl,rfl,lk,hcd⟩:=F.ex
 refine xS lk hcd S len fun A outer s H vs Q E hr hsp=>?_
 obtain⟨t,h,q⟩:=hbody cdv A outer s H vs Q E hr hsp
 exact⟨t,h.nox,q⟩
theorem Fun.binds {x qual:Str}{st:Stmt}{f:Addr}{fd:FuncData}{ps:List Str}(F:Fun K x qual st f fd)
  (h:∀(kV doc pm:Value) (an:Option Addr) (cdv ct:Value) (us:List Value),us.length=ps.length->bindArgs (W.fnOf x qual (dq st) (cC st) (ap st) .none kV doc pm an cdv ct) ⟨us,[]⟩=pure (ps.zip us)):cD K fd ps []:=by
 obtain⟨oc,od,kV,doc,pm,an,cdv,ct,osl,rfl,lk,hcd⟩:=F.ex
 exact .all (h kV doc pm an cdv ct)
theorem uT {x qual:Str}{st:Stmt}{f:Addr}{oc:Value}{od an:Option Addr}{osl:Array (Option Value)}{kV doc pm cdv ct:Value}(l:K.lookup f=some ⟨oc,od,.func (W.fnOf x qual (dq st) (cC st) (ap st) .none kV doc pm an cdv ct),osl⟩)
  (c:W.codeIn K cdv qual=true) (k:W.keepIn K (.ref f)=true):Fun K x qual st f (W.fnOf x qual (dq st) (cC st) (ap st) .none kV doc pm an cdv ct):=⟨⟨oc,od,kV,doc,pm,an,cdv,ct,osl,rfl,l,c⟩,k⟩
end
theorem oq {A:Around}{k:Nat}(hr:Room k A):A.units+1<cLine:=Nat.lt_of_le_of_lt (Nat.add_le_add_left (by decide:1≤64) _) hr.units
section
variable {X:Cx}
theorem pv (i:Nat) {x:Str}{pos:Pos}(hN:X.N[i]?=some x:=by rfl) (hv:Vis X.env.scope x:=by first|exact Or.inl rfl|exact Or.inr (Or.inl rfl)|exact Or.inr (Or.inr rfl)) (hd:(x==("__debug__":Str))=false:=by decide)
  (hcd:(x==("__classdict__":Str))=false:=by decide):PE X (.Name x pos) (sK i):=Ac hN hv hd hcd
end
theorem aM {A B:Prop}(h:B):if false=true then A else B:=by
 rw[if_neg Bool.false_ne_true]
 exact h
theorem aJ {A B:Prop}(h:A):if true=true then A else B:=by
 rw[if_pos rfl]
 exact h
theorem ti {c A B:Prop} [Decidable c] (h1:c->A) (h2:¬c->B):if c then A else B:=by
 by_cases h:c
 ·rw[if_pos h]
  exact h1 h
 ·rw[if_neg h]
  exact h2 h
def au (H H':Hp):Prop:=∀b o,H b=some o->H' b=some o
theorem au.refl (H:Hp):au H H:=fun _ _ h=>h
theorem au.trans {H H1 H2:Hp}(a:au H H1) (b:au H1 H2):au H H2:=fun c o h=>b c o (a c o h)
theorem au.free {H H':Hp}(e:au H H') {l:Addr}(h:H' l=Option.none):H l=Option.none:=by
 cases q:H l with
 | none=>rfl
 | some o=>
  rw[e l o q] at h
  cases h
end L2
set_option maxHeartbeats 4000000
namespace L2
open PySem PySem.Spec PyProof.Rows
theorem oW {P:Program}{w:World}{H:Hp}{h:Heap}{a:Addr}{o:HO}(x:bc P w H h a o):∃u,h.get? a=some u:=by
 cases o with
 | lst xs=>obtain⟨_,_,_,_,e⟩:=x;exact⟨_,e⟩
 | tup xs=>obtain⟨_,_,_,_,e,_⟩:=x;exact⟨_,e⟩
 | dK kvs=>obtain⟨_,_,_,_,o,_,_,e,_⟩:=x;exact⟨_,e⟩
 | dT kvs=>obtain⟨_,_,_,_,o,_,_,e,_⟩:=x;exact⟨_,e⟩
 | set S n=>obtain⟨o,_,_,_,e,_⟩:=x;exact⟨_,e⟩
 | ins C dx fs=>obtain⟨_,_,_,e,_⟩:=x;exact⟨_,e⟩
 | own y=>obtain⟨_,e⟩:=x;exact⟨_,e⟩
 | xd fs=>obtain⟨_,⟨_,_,_,e,_⟩,_⟩:=x;exact⟨_,e⟩
 | rng lo hi=>obtain⟨_,_,_,e⟩:=x;exact⟨_,e⟩
 | frz ob u=>obtain⟨e,_⟩:=x;exact⟨_,e⟩
 | tbl ps=>exact⟨_,show h.get? a=some _ from x⟩
 | met f y=>exact⟨_,show h.get? a=some _ from x⟩
 | ext φ=>obtain⟨_,⟨_,e⟩,_⟩:=x;exact⟨_,e⟩
def Trc (h:Heap) (e:Addr) (cls:Value) (T:Addr):Prop:=
 ∃a0 oe vs oT ts,h.get? e=some oe∧(oe.cls=cls∧vs[0]?=some a0)∧oe.data=.fields vs∧vs[1]?=some (.ref T)∧T≠e∧h.get? T=some oT∧oT.data=.fields ts∧ts[3]?=some .none
theorem Trc.traced {h B:Heap}{e T:Addr}{cls:Value}(x:Trc h e cls T) (hT:B.get? T=none):∃a0,h.TracedW B e cls a0:=by
 obtain⟨a0,oe,vs,oT,ts,x1,x2,x3,x4,x5,x6⟩:=x
 exact⟨a0,oe,vs,T,oT,ts,x1,x2,x3,x4,hT,x5,x6⟩
theorem oX {h B:Heap}{e:Addr}{cls a0:Value}(x:h.TracedW B e cls a0):∃T,Trc h e cls T∧B.get? T=none:=by
 obtain⟨oe,vs,T,oT,ts,x1,x2,x3,x4,hT,x5,x6⟩:=x
 exact⟨T,⟨a0,oe,vs,oT,ts,x1,x2,x3,x4,x5,x6⟩,hT⟩
structure Fly (h0:Heap) (H:Hp) (e:Addr) (cls:Value) (h:Heap):Prop where
 new:h0.get? e=none
 free:H e=none
 tr:∃T,Trc h e cls T∧h0.get? T=none∧H T=none
def CX1 (P:Program) (w:World):CXT:=fun outer H s E e s'=>
 ∃(ea:Addr) (cls:Value) (H':Hp),e=.ref ea∧s'.os=s.os∧AllBare s'.gens∧Un (frs outer) [] H H' s.heap s'.heap∧HOk P w H' s'.heap∧Fly s.heap H' ea cls s'.heap∧E cls none H'
section
variable {X:Cx}{aa:List (Addr×Obj)}{σ:St}{H:Hp}{s:Shared}
theorem xV (hso:X.stack=X.env::X.outer) {b:Addr}(hb:b∈X.fs):b∈frs X.stack:=by
 rw[hso]
 obtain⟨env,he,hf⟩:=List.mem_filterMap.mp hb
 exact List.mem_filterMap.mpr ⟨env,List.mem_cons_of_mem _ he,hf⟩
theorem jQ (I:Inv X aa σ H s) {b:Addr}(hb:b∈frs X.stack):∃o,s.heap.get? b=some o∧∀vs,o.data≠.fields vs:=(I.stack.mem hb).2
theorem mq {h':Heap}{e:Addr}{cls a0:Value}{l:List Addr}{E:XK}(I:Inv X aa σ H s) (hex:X.ex=[]) (hso:X.stack=X.env::X.outer)
  (hl:∀b∈l,H b=none∧X.s₀.heap.get? b=none) (he:H e=none) (he0:X.s₀.heap.get? e=none)
  (st:∀b o,b∉frs X.stack->b∉l->s.heap.get? b=some o->h'.get? b=some o) (up:s.heap.UpToSlots h')
  (tr:h'.TracedW (W.hideAll s.heap (frs X.stack++l)) e cls a0) (q:E cls none H) :
  CX1 X.prog X.w X.outer X.H₀ X.s₀ E (.ref e) { s with heap:=h' }:=by
 have noex:∀b,b∉X.ex:=fun b z=>by rw[hex] at z;exact absurd z (by simp)
 have nfr:∀b o,X.s₀.heap.get? b=some o->b∉X.fs->b∉frs X.stack:=fun b o e1 nb z=>by
  rcases List.mem_cons.mp (I.stkSub b z) with r|r
  ·exact absurd (Nat.lt_of_lt_of_le (Heap.lt_size e1) I.ok.above) (by rw[r];exact Nat.lt_irrefl _)
  ·exact nb r
 have nl:∀b o,X.s₀.heap.get? b=some o->b∉l:=fun b o e1 z=>by rw[(hl b z).2] at e1;cases e1
 have frUp:∀b,b∈frs X.stack->∃o sl,s.heap.get? b=some o∧(∀vs,o.data≠.fields vs)∧h'.get? b=some { o with slots:=sl }:=fun b hb=>by
  obtain⟨o,e1,nd⟩:=jQ I hb
  obtain⟨sl,e2⟩:=up b o e1 nd
  exact⟨o,sl,e1,nd,e2⟩
 obtain⟨T,trc,hT⟩:=oX tr
 refine⟨e,cls,H,rfl,I.os,I.bare,⟨fun b o e1 n hb _=>?_,fun b o e1 n hb _=>?_,fun b o e1 n _=>I.base.free b o e1 n (noex b),fun b o e1 _=>?_,I.base.tups,I.base.frzs,I.base.tbls⟩,fun a o ea=>?_,⟨he0,he,T,trc,?_,?_⟩,q⟩
 ·exact st b o (nfr b o e1 hb) (nl b o e1) (I.base.keep b o e1 n hb (noex b))
 ·obtain⟨sl,e2⟩:=I.base.slot b o e1 n hb (noex b)
  obtain⟨o',sl',e3,nd,e4⟩:=frUp b (xV hso hb)
  rw[e2] at e3
  cases e3
  exact⟨sl',e4⟩
 ·obtain⟨o',e2⟩:=I.base.there b o e1 (noex b)
  by_cases hb:b∈frs X.stack
  ·obtain⟨_,_,_,_,e4⟩:=frUp b hb
   exact⟨_,e4⟩
  ·exact⟨o',st b o' hb (nl b o e1) e2⟩
 ·refine(I.hok a o ea).stay (fun b u hb e1=>st b u (fun z=>?_) (fun z=>?_) e1) (fun _ z=>z) fun _ _ z=>z
  ·have n:=I.stkFree b z
   rcases hb with r|r
   ·rw[r,ea] at n;cases n
   ·rw[r] at n;cases n
  ·have n:=(hl b z).1
   rcases hb with r|r
   ·rw[r,ea] at n;cases n
   ·rw[r] at n;cases n
 all_goals
  have nfT:T∉frs X.stack:=fun z=>by
   obtain⟨o,sl,_,nd,e4⟩:=frUp T z
   obtain⟨_,_,_,oT,ts,_,_,_,_,_,e5,e6,_⟩:=trc
   rw[e4] at e5
   cases e5
   exact nd ts e6
  have old:T∈l∨s.heap.get? T=none:=by
   by_cases z:T∈l
   ·exact .inl z
   ·refine .inr ?_
    cases e1:s.heap.get? T with
    | none=>rfl
    | some o=>
     rw[W.hideAll_get _ e1 (fun m=>(List.mem_append.mp m).elim nfT z)] at hT
     cases hT
 ·rcases old with z|z
  ·exact(hl T z).2
  ·cases e1:X.s₀.heap.get? T with
   | none=>rfl
   | some o=>
    obtain⟨o',e2⟩:=I.base.there T o e1 (noex T)
    rw[z] at e2
    cases e2
 ·rcases old with z|z
  ·exact(hl T z).1
  ·cases e1:H T with
   | none=>rfl
   | some o=>
    obtain⟨u,e2⟩:=oW (I.hok T o e1)
    rw[z] at e2
    cases e2
end
def cI (CX:CXT) (X:Cx) (E:St->XK):Prop:=∀(aa:List (Addr×Obj)) (σ:St) (H:Hp) (s:Shared) (e:Value) (s':Shared),Inv X aa σ H s->CX X.stack H s (E σ) e s'->X.xe e s'
def oY (X:Cx) (E:St->XK):Prop:=∀(aa:List (Addr×Obj)) (σ:St) (H:Hp) (s:Shared) (h':Heap) (e:Addr) (cls:Value) (vs:List Value),Inv X aa σ H s->Heap.MadeExcOf s.heap h' e cls vs->E σ cls none H->X.xe (.ref e) { s with heap:=h' }
def Aq (sp:Sp) (dvs:List V) (E:St->XK) (t:TA):TE:=fun σ H Q=>t σ H fun vs H1=>sp (vs++dvs) H1 Q (E σ)
section
variable {X:Cx}{CX:CXT}{k:Nat}{f C:Addr}{fd:FuncData}{ps:List Str}{sp:Sp}{dvs:List V}{ds:List Value}{E:St->XK}{x m:Str}{p pos apos:Pos}{e o:Expr}{es:List Expr}{ta:TE}{t:TA}
theorem yS {aa:List (Addr×Obj)}{σ:St}{H:Hp}{s:Shared}{Q:VK}{us:List Value}{vs:List V}(F:FnOk X.prog X.w X.K X.mg X.base CX k f fd ps sp) (hr:Room k X.A) (hb:cD X.K fd ps ds) (hd:az dvs ds) (hx:cI CX X E)
  (I:Inv X aa σ H s) (r:az vs us) (h:sp (vs++dvs) H Q (E σ)):wpAny (model X.prog X.w) X.A (call (.ref f) us) (EP X aa σ Q) X.xe s:=by
 have r2:az (vs++dvs) (us++ds):=r.append hd
 have hl:(us++ds).length=ps.length:=by rw[←r2.length];exact F.len _ _ _ _ h
 refine wpAny_call (codeAny_mono (F.run X.A X.stack s H ⟨us,[]⟩ (us++ds) (vs++dvs) Q (E σ) hr I.env0 (hb s us I.kIn hl) r2 h) fun r s' hq=>?_)
 cases r with
 | error e=>exact hx aa σ H s e s' I hq
 | ok fl=>
  cases fl with
  | ret u=>exact I.after hq
  | next=>exact False.elim hq
  | brk=>exact False.elim hq
  | cont=>exact False.elim hq
theorem wD (F:FnOk X.prog X.w X.K X.mg X.base CX k f fd ps sp) (hr:Room k X.A) (hg:Gl X x) (hm:X.mg x=some (.ref f)) (hk:W.keepIn X.K (.ref f)=true) (hb:cD X.K fd ps ds) (hd:az dvs ds) (hx:cI CX X E)
  (ha:PA X (e::es) t) (hdb:(x==("__debug__":Str))=false:=by decide) (he:starEach (e::es) X.env=(false,eval e X.env)::starEach es X.env:=by rfl) (hpl:(backTo pos (starEach es X.env)).any (·.1)=false:=by rfl) :
  PE X (.Call (.Name x p) (e::es) [] pos) (Aq sp dvs E t):=by
 intro aa s σ H Q I h
 refine wpAny_Call_Name_kw (gS I hg hm ?_ hdb)
 refine W.callWith_K (h₀:=X.base) I.ok.mod.kin hk (thn (ha pos aa s σ H _ I h) fun us s1 ⟨vs,H1,I1,r,q⟩=>⟨I1.kIn,?_⟩) he hpl
 exact yS F hr hb hd hx I1 r q
end
theorem bg {X:Cx}{E:St->XK}:cI CX0 X E:=fun _ _ _ _ _ _ _ h=>h.elim
section
variable {P:Program}{w:World}{K:W.Frag}{mg:Str->Option Value}{base:Heap}{N:List Str}{qual:Str}{scope:Scope}{f:Addr}{cd:Value}{A:Around}{outer:List Env}{s₁:Shared}{H₁:Hp}{E:XK}
theorem wE:cI (CX1 P w) (cQ (CX1 P w) P w K mg base N qual scope f cd A outer s₁ H₁ E) (fun _=>E):=by
 intro aa σ H s e s' I hx
 obtain⟨ea,cls,H',rfl,ho,hg,un,hok,fl,q⟩:=hx
 have I':=I.call' (ch:=[]) ho un hok hg (fun b z=>absurd z (by simp))
 obtain⟨T,trc,hT0,hTH⟩:=fl.tr
 have up:∀b,s.heap.get? b=none->s₁.heap.get? b=none:=fun b hb=>by
  cases e1:s₁.heap.get? b with
  | none=>rfl
  | some o=>
   obtain⟨o',e2⟩:=I.base.there b o e1 (by intro z;exact absurd (show b∈([]:List Addr) from z) (by simp))
   rw[hb] at e2
   cases e2
 have hB:∀b∈[ea,T],(W.hideAll s'.heap (frs (cQ (CX1 P w) P w K mg base N qual scope f cd A outer s₁ H₁ E).stack++[ea,T])).get? b=none:=fun b hb=>W.hideAll_none _ (List.mem_append_right _ hb)
 obtain⟨a0,tw⟩:=trc.traced (hB T (by simp))
 show wpAny (model P w) (A.deeper (envOfC qual scope s₁.heap.objs.size f cd)) (leaving (envOfC qual scope s₁.heap.objs.size f cd) (.ref ea)) _ _ s'
 refine wpAny_leaving_nextW (outer:=outer) (L:=s₁.heap.objs.size) I'.ok.frames (W.funFrames_hide I'.stack fun env he a ha=>List.mem_append_left _ (List.mem_filterMap.mpr ⟨env,he,ha⟩)) rfl tw (fun b o z=>W.of_hideAll _ z) (hB ea (by simp)) fun h' hL=>?_
 obtain⟨k1,k2,k3,k4⟩:=hL
 exact mq (X:=cQ (CX1 P w) P w K mg base N qual scope f cd A outer s₁ H₁ E) (l:=[ea,T]) I' rfl rfl
  (fun b hb=>by
   rcases List.mem_cons.mp hb with z|z
   ·rw[z];exact⟨fl.free,up ea fl.new⟩
   ·rw[List.mem_singleton.mp z];exact⟨hTH,up T hT0⟩)
  fl.free (up ea fl.new) (fun b o z1 z2 e1=>k1 b o (W.hideAll_get _ e1 fun m=>(List.mem_append.mp m).elim z1 z2)) k4 k3 q
theorem tj:oY (cQ (CX1 P w) P w K mg base N qual scope f cd A outer s₁ H₁ E) (fun _=>E):=by
 intro aa σ H s h1 e cls vs I hm q
 show wpAny (model P w) (A.deeper (envOfC qual scope s₁.heap.objs.size f cd)) (leaving (envOfC qual scope s₁.heap.objs.size f cd) (.ref e)) _ _ { s with heap:=h1 }
 have hn:H e=none:=by
  cases e1:H e with
  | none=>rfl
  | some o=>
   obtain⟨u,e2⟩:=oW (I.hok e o e1)
   rw[hm.new] at e2
   cases e2
 have h0:s₁.heap.get? e=none:=by
  cases e1:s₁.heap.get? e with
  | none=>rfl
  | some o=>
   obtain⟨o',e2⟩:=I.base.there e o e1 (by intro z;exact absurd (show e∈([]:List Addr) from z) (by simp))
   rw[hm.new] at e2
   cases e2
 refine wpAny_leaves_madeW (base:=W.hideAll s.heap (frs (cQ (CX1 P w) P w K mg base N qual scope f cd A outer s₁ H₁ E).stack++[])) (h:=s.heap) (outer:=outer) (L:=s₁.heap.objs.size) (cls:=cls) (args:=vs) I.ok.frames rfl (fun b o z=>W.of_hideAll _ z)
  (W.funFrames_hide I.stack fun env he a ha=>List.mem_append_left _ (List.mem_filterMap.mpr ⟨env,he,ha⟩)) hm fun h' t fl _ _ ups=>?_
 obtain⟨k1,k2,k3,k4⟩:=fl
 exact mq (X:=cQ (CX1 P w) P w K mg base N qual scope f cd A outer s₁ H₁ E) (s:=s) (l:=[]) I rfl rfl (fun b z=>absurd z (by simp)) hn h0
  (fun b o z1 z2 e1=>k1 b o (W.hideAll_get _ e1 fun m=>(List.mem_append.mp m).elim z1 z2)) ((Heap.UpToSlots.of_keeps hm.keeps).trans ups) k4 q
end
theorem Fun.okX {P:Program}{w:World}{K:W.Frag}{mg:Str->Option Value}{base:Heap}{x qual:Str}{st:Stmt}{f:Addr}{fd:FuncData}{N ps:List Str}{k:Nat}{sp:Sp}(F:Fun K x qual st f fd) (S:FnScope N ps (ap st)) (len:∀vs H Q E,sp vs H Q E->vs.length=ps.length)
  (hbody:∀(X:Cx) (cdv:Value) (A:Around) (outer:List Env) (s:Shared) (H:Hp) (vs:List V) (Q:VK) (E:XK),X=cQ (CX1 P w) P w K mg base N qual (ap st) f cdv A outer s H E->cI (CX1 P w) X (fun _=>E)->oY X (fun _=>E)->
   Room k X.A->sp vs H Q E->∃t,PSs X (cC st) t∧t { nx:=fun _ H'=>Q .non H',rt:=Q } (fY N vs) H):FnOk P w K mg base (CX1 P w) (k+1) f fd ps sp:=by
 obtain⟨oc,od,kV,doc,pm,an,cdv,ct,osl,rfl,lk,hcd⟩:=F.ex
 refine xS lk hcd S len fun A outer s H vs Q E hr hsp=>?_
 exact hbody _ cdv A outer s H vs Q E rfl wE tj hr hsp
section
variable {X:Cx}
theorem PS.nox {st:Stmt}{t:TS}(h:PS X.nox st t):PS X st t:=fun aa s σ H D I hw=>
 wpAny_mono (h aa s σ H D (I.wish _) hw) (fun _ _ q=>q.unwish) fun _ _ z=>False.elim z
end
abbrev bmV:List Value:=[.type "ValueError",.type "Exception",.type "BaseException",.type "object"]
theorem Dx {K:W.Frag}{h:Heap}{C:Addr}{bmB:List Value}{newId:String}(I:K.In h) (q:W.excIn K C bmB newId=true) :
  ∃bm N nm qn bs hdct sn sub ab col dd k0 k1 k2 k3 k5 mN,h.get? C=some (excClassObj nm qn C N bs bm hdct sn sub ab col dd k0 k1 k2 k3 k5 newId)∧h.Ns N mN∧mN "__init__"=none∧OwnTail h bmB bm:=by
 unfold W.excIn at q
 split at q
 case h_2=>cases q
 case h_1 dd cd sl lk=>
  split at q
  case h_2=>cases q
  case h_1 C' bm k0 k1 k2 k3 nid k5 em es=>
   rw[Bool.and_eq_true,Bool.and_eq_true,Bool.and_eq_true,Bool.and_eq_true,Bool.and_eq_true] at q
   obtain⟨⟨⟨⟨⟨q1,q2⟩,q3⟩,q4⟩,q5⟩,q6⟩:=q
   have e1:C'=C:=beq_iff_eq.mp q1
   have e2:nid=newId:=beq_iff_eq.mp q2
   have e3:cd.hasDel=false:=by cases hh:cd.hasDel with
    | false=>rfl
    | true=>rw[hh] at q3;cases q3
   subst e1 e2
   have e4:sl=#[k0,k1,k2,k3,some (.builtin nid),k5]:=by
    cases sl with
    | mk l=>exact congrArg Array.mk es
   cases cd with
   | mk name bases mro ns qualname hasDict slotNames subclasses abstract collection hasDel=>
    simp only at em e3
    subst em e3 e4
    exact⟨bm,ns,name,qualname,bases,hasDict,slotNames,subclasses,abstract,collection,dd,k0,k1,k2,k3,k5,_,I _ _ lk,
     .of_isNs (W.isNs_of_in I q5),W.nsMap_none_of_in I q5 (beq_iff_eq.mp q6),W.tail_of_in I q4⟩
structure OwnX (K:W.Frag) (mg:Str->Option Value) (x:Str) (C:Addr):Prop where
 bound:mg x=some (.ref C)
 ok:W.excIn K C bmV "ValueError.__new__"=true
def Ar (C:Addr) (E:St->XK) (t:TA):TS:=fun _ σ H=>t σ H fun vs H1=>vs.length≤sizeLine∧E σ (.ref C) none H1
theorem bV {X:Cx}{E:St->XK}{x:Str}{C:Addr}{np cpos pos:Pos}{e₀:Expr}{rest:List Expr}{t:TA}(hc:X.calm=true) (hg:Gl X x) (O:OwnX X.K X.mg x C) (hr:oY X E) (ha:PA X (e₀::rest) t)
  (hd:(x==("__debug__":Str))=false:=by decide) (he:starEach (e₀::rest) X.env=(false,eval e₀ X.env)::starEach rest X.env:=by rfl) (hpl:(backTo cpos (starEach rest X.env)).any (·.1)=false:=by rfl) :
  PS X (.Raise (some (.Call (.Name x np) (e₀::rest) [] cpos)) none pos) (Ar C E t):=by
 intro aa s σ H D I h
 obtain⟨bm,N,nm,qn,bs,hdct,sn,sub,ab,col,dd,k0,k1,k2,k3,k5,mN,hC,hN,hni,T⟩:=Dx I.ok.mod.kin O.ok
 refine wpAny_Raise_call_subT (C:=C) (nm:=nm) (q:=qn) (N:=N) (bs:=bs) (bm:=bm) (hdct:=hdct) (sn:=sn) (sub:=sub) (ab:=ab) (col:=col) (dd:=dd) (k0:=k0) (k1:=k1) (k2:=k2) (k3:=k3) (k5:=k5) (mN:=mN)
  PySem.F.excBase_ValueError (T.hasType (by decide +kernel)) (I.ok.hd hc) (by rw[he];show(false||(backTo cpos (starEach rest X.env)).any (·.1))=false;rw[hpl];rfl) hni (gS I hg O.bound ⟨rfl,?_⟩ hd)
 have h2:=ha cpos aa s σ H _ I h
 rw[he] at h2 ⊢
 refine Calls.evalArgs_plain (thn h2 fun us s2 ⟨vs,H2,I2,r,q1,q2⟩=>⟨rfl,by rw[←r.length];exact q1,I2.bk _ _ hC,hN.keeps I2.bk,T.keeps I2.bk,fun h' e hm=>?_⟩)
 exact hr aa σ H2 s2 h' e _ _ I2 hm q2
end L2
namespace L2
open PySem PySem.Spec PyProof.Rows
theorem gp {env:Env}:∀(names:List (Str×NameKind)) (acc:List (Str×Addr)),(∀y∈names,y.2=.free->∃c,env.cells.lookup y.1=some c)->
  ∃cl,(forIn (m:=Sem) names acc fun(y:Str×NameKind) cs=>(do if (y.2==NameKind.free)=true then (do let c ←cellOf env y.1;pure (ForInStep.yield ((y.1,c)::cs))) else pure (ForInStep.yield cs)))=pure cl∧
   (∀y c,cl.lookup y=some c->acc.lookup y=some c∨env.cells.lookup y=some c)∧(∀y∈names,y.2=.free->(cl.lookup y.1).isSome=true)∧∀y,(acc.lookup y).isSome=true->(cl.lookup y).isSome=true
 | [],acc,_=>⟨acc,rfl,fun _ _ e=>.inl e,(fun _ h=>absurd h (by simp)),fun _ e=>e⟩
 | (n,k)::r,acc,h=>by
  by_cases hk:k=.free
  ·subst hk
   obtain⟨c,hc⟩:=h (n,.free) List.mem_cons_self rfl
   obtain⟨cl,e1,e2,e3,e4⟩:=gp r ((n,c)::acc) fun y hy=>h y (List.mem_cons_of_mem _ hy)
   have look:∀y,List.lookup y ((n,c)::acc)=if (y==n)=true then some c else acc.lookup y:=fun y=>by
    rw[List.lookup_cons];cases (y==n) <;> rfl
   refine⟨cl,?_,fun y d e=>?_,fun y hy hf=>?_,fun y e=>?_⟩
   ·rw[List.forIn_cons]
    have hco:cellOf env n=pure c:=by unfold cellOf;rw[hc]
    simp only[beq_self_eq_true,if_true,hco,pure_bind]
    exact e1
   ·rcases e2 y d e with z|z
    ·rw[look] at z
     by_cases hy:(y==n)=true
     ·rw[if_pos hy] at z
      have:y=n:=by simpa using hy
      subst this
      rw[hc];exact .inr z
     ·rw[if_neg hy] at z;exact .inl z
    ·exact .inr z
   ·rcases List.mem_cons.mp hy with z|z
    ·subst z
     exact e4 n (by rw[look,if_pos (by simp)];rfl)
    ·exact e3 y z hf
   ·refine e4 y ?_
    rw[look]
    split
    ·rfl
    ·exact e
  ·obtain⟨cl,e1,e2,e3,e4⟩:=gp r acc fun y hy=>h y (List.mem_cons_of_mem _ hy)
   refine⟨cl,?_,e2,fun y hy hf=>?_,e4⟩
   ·rw[List.forIn_cons]
    have hb:(k==NameKind.free)=false:=by simpa using hk
    simp only[hb,Bool.false_eq_true,if_false,pure_bind]
    exact e1
   ·rcases List.mem_cons.mp hy with z|z
    ·subst z;exact absurd hf hk
    ·exact e3 y z hf
theorem iA {scope:Scope}{env:Env}(h:∀y∈scope.names,y.2=.free->∃c,env.cells.lookup y.1=some c) :
  ∃cl,closureFor scope env=pure cl∧(∀y c,cl.lookup y=some c->env.cells.lookup y=some c)∧∀y∈scope.names,y.2=.free->(cl.lookup y.1).isSome=true:=by
 obtain⟨cl,e1,e2,e3,_⟩:=gp scope.names [] h
 refine⟨cl,?_,fun y c e=>(e2 y c e).elim (fun z=>by cases z) id,e3⟩
 have e:closureFor scope env=((forIn (m:=Sem) scope.names ([]:List (Str×Addr)) fun(y:Str×NameKind) cs=>(do if (y.2==NameKind.free)=true then (do let c ←cellOf env y.1;pure (ForInStep.yield ((y.1,c)::cs))) else pure (ForInStep.yield cs))) >>= pure):=rfl
 rw[e,e1]
 rfl
def cxC (X:Cx) (scope:Scope) (cl:List (Str×Addr)) (x:Str) (C:Addr) (s₂:Shared) (H₂:Hp) (fp:List Addr) (aa:List (Addr×Obj)):Cx where
 prog:=X.prog
 w:=X.w
 K:=X.K
 mg:=X.mg
 base:=X.base
 A:=X.A
 N:=x::X.N
 s₀:=s₂
 H₀:=H₂
 env:=compEnvC scope cl C X.env
 outer:=X.stack
 stack:=X.stack
 ex:=fp
 fn:=fun _=>false
 calm:=X.calm
 pn:=X.pn++aa
 xe:=fun _ _=>False
structure CScope (sc:Scope) (N:List Str) (scope:Scope) (x:Str):Prop where
 kind:scope.kind=.function
 cell:∀y∈scope.names,y.2≠.cell
 free:∀y∈scope.names,y.2=.free->sc.names.lookup y.1=some .cell∨sc.names.lookup y.1=some .free
 names:∀y∈scope.names,y.2=.local ->scope.names.lookup y.1=some .local
 var:scope.names.lookup x=some .local
 fresh:x∉N
 other:∀y∈N,scope.names.lookup y≠some .local
theorem gZ {scope:Scope}{env:Env}:∀{names:List (Str×NameKind)}{y:Str}{k:NameKind},
  (names.map fun(n,k)=>if (k==NameKind.free&&env.scope.kind==.function&&env.kindOf n==some .cell) then (n,NameKind.cell) else (n,k)).lookup y=some k->
   ∃k',names.lookup y=some k'∧(k'=k∨(k'=.free∧k=.cell))
 | [],_,_,h=>by simp at h
 | (n,k0)::r,y,k,h=>by
  rw[List.map_cons] at h
  by_cases hy:(y==n)=true
  ·have:y=n:=by simpa using hy
   subst this
   by_cases hc:(k0==NameKind.free&&env.scope.kind==.function&&env.kindOf y==some .cell)=true
   ·simp only[hc,if_true,List.lookup_cons,beq_self_eq_true] at h
    cases h
    rw[Bool.and_eq_true,Bool.and_eq_true] at hc
    exact⟨k0,by simp[List.lookup_cons],.inr ⟨by simpa using hc.1.1,rfl⟩⟩
   ·simp only[hc,Bool.false_eq_true,if_false,List.lookup_cons,beq_self_eq_true] at h
    cases h
    exact⟨k0,by simp[List.lookup_cons],.inl rfl⟩
  ·have hy':(y==n)=false:=by simpa using hy
   have h':(r.map fun(n,k)=>if (k==NameKind.free&&env.scope.kind==.function&&env.kindOf n==some .cell) then (n,NameKind.cell) else (n,k)).lookup y=some k:=by
    by_cases hc:(k0==NameKind.free&&env.scope.kind==.function&&env.kindOf n==some .cell)=true
    ·simp only[hc,if_true,List.lookup_cons,hy'] at h;exact h
    ·simp only[hc,Bool.false_eq_true,if_false,List.lookup_cons,hy'] at h;exact h
   obtain⟨k',e1,e2⟩:=gZ (scope:=scope) (env:=env) h'
   exact⟨k',by rw[List.lookup_cons,hy'];exact e1,e2⟩
section
variable {X:Cx}{scope:Scope}{cl:List (Str×Addr)}{x:Str}{C D:Addr}{s₂:Shared}{H₂:Hp}{fp:List Addr}{aa:List (Addr×Obj)}{σ:St}
abbrev bp (its:List Value) (n:Nat):Obj:={ cls:=.type "list",data:=.seq its.toArray n }
theorem jj {h₁:Heap}{t':Nat}{its:List Value}{n:Nat}(I:Inv X aa σ H₂ s₂) (S:CScope X.env.scope X.N scope x) (hfp:∀b∈fp,fh X aa H₂ b) (hfo:∀b∈fp,∃o,s₂.heap.get? b=some o)
  (hcl:∀y c,cl.lookup y=some c->X.env.cells.lookup y=some c)
  (hcf:∀y∈scope.names,y.2=.free->(cl.lookup y.1).isSome=true) (hD:s₂.heap.objs.size≤D) (hC:s₂.heap.objs.size≤C) (hDC:D≠C) (hns:∃m,h₁.Ns C m) (hd:h₁.get? D=some (bp its n))
  (keep:∀b o,s₂.heap.get? b=some o->h₁.get? b=some o) :
  Inv (cxC X scope cl x C s₂ H₂ fp aa) [(D,bp its n)] (none::σ) H₂ { s₂ with heap:=h₁,toks:=t' }:=by
 have lk:∀{y:Str}{k:NameKind},(compEnvC scope cl C X.env).kindOf y=some k->∃k',scope.names.lookup y=some k'∧(k'=k∨(k'=.free∧k=.cell)):=fun {y k} h=>gZ (scope:=scope) h
 have isfree:∀{y:Str},((compEnvC scope cl C X.env).kindOf y=some .cell∨(compEnvC scope cl C X.env).kindOf y=some .free)->scope.names.lookup y=some .free:=fun {y} h=>by
  rcases h with h|h
  ·obtain⟨k',e1,e2⟩:=lk h
   rcases e2 with z|z
   ·subst z;exact absurd rfl (S.cell _ (PySem.mem_of_lookup e1))
   ·rw[z.1] at e1;exact e1
  ·obtain⟨k',e1,e2⟩:=lk h
   rcases e2 with z|z
   ·rw[z] at e1;exact e1
   ·exact absurd z.2 (by decide)
 have sz:=I.sz
 have new:∀b,s₂.heap.objs.size≤b->b∉frs X.stack:=fun b hb z=>by
  rcases List.mem_cons.mp (I.stkSub b z) with r|r
  ·exact absurd (Nat.lt_of_lt_of_le I.lt hb) (by rw[r];exact Nat.lt_irrefl _)
  ·exact I.nofs hb r
 have neC:∀b o,s₂.heap.get? b=some o->b≠C:=fun b o e=>Nat.ne_of_lt (Nat.lt_of_lt_of_le (Heap.lt_size e) hC)
 refine⟨⟨I.ok.mod,S.kind,I.ok.glob,I.ok.blt,hC,fun y z c h1 h2=>I.ok.inj y z c (hcl y c h1) (hcl z c h2),fun y hy=>?_,fun y c h=>absurd h (by show ¬(false=true);decide),I.ok.hd,I.ok.frames,.inl rfl,fun b hb=>⟨?_,fun y c h=>?_⟩,I.bs,Nat.le_trans I.ok.bsz sz,fun b o e hb=>?_,fun b hb z=>?_,I.stack,I.stkFree⟩,
  rfl,I.bare,Un.kept keep,?_,fun y c h=>?_,I.hok.fresh hC,fun y c h=>I.freeC y c (hcl y c h),fun p hp=>?_,I.hok.kept keep,?_⟩
 ·have e:=isfree hy
  exact Option.isSome_iff_exists.mp (hcf (y,.free) (PySem.mem_of_lookup e) rfl)
 ·obtain⟨o,e⟩:=hfo b hb
  exact neC b o e
 ·exact(hfp b hb).2.2.2.2.1 y c (hcl y c h)
 ·obtain⟨_,_,_,hx,_⟩:=hfp b hb
  rcases hx with r|r
  ·exact I.ok.noex b o e r
  ·exact absurd (Nat.lt_of_lt_of_le (Heap.lt_size (I.ok.bs b o e).1) r) (Nat.lt_irrefl _)
 ·obtain⟨_,hL,hf,_⟩:=hfp b hb
  rcases List.mem_cons.mp (I.stkSub b z) with r|r
  ·exact hL r
  ·exact hf r
 ·obtain⟨m,hm⟩:=hns
  obtain⟨m',_,hl⟩:=I.loc
  refine⟨m,hm,fun i y v e1 e2 e3=>?_⟩
  cases i with
  | zero=>cases (show some (none:Option V)=some (some v) from e2)
  | succ i=>
   have e1':X.N[i]?=some y:=e1
   have e2':σ[i]?=some (some v):=e2
   have fr:scope.names.lookup y=some .free:=by
    rcases e3 with z|z
    ·obtain⟨k',q1,q2⟩:=lk z
     rcases q2 with q2|q2
     ·rw[q2] at q1;exact absurd q1 (S.other y (List.mem_of_getElem? e1'))
     ·exact absurd q2.2 (by decide)
    ·exact isfree z
   have kd:(compEnvC scope cl C X.env).kindOf y=some .cell∨(compEnvC scope cl C X.env).kindOf y=some .free:=by
    rcases e3 with z|z
    ·obtain⟨k',q1,q2⟩:=lk z
     rw[fr] at q1
     cases q1
     rcases q2 with q2|q2
     ·cases q2
     ·exact absurd q2.2 (by decide)
    ·exact z
   have kx:=S.free (y,.free) (PySem.mem_of_lookup fr) rfl
   obtain⟨u,r,q⟩:=hl i y v e1' e2' (.inr kx)
   refine⟨u,r,.inr ⟨kd,?_⟩⟩
   obtain⟨c,hc⟩:=Option.isSome_iff_exists.mp (hcf (y,.free) (PySem.mem_of_lookup fr) rfl)
   refine⟨c,hc,?_⟩
   rcases q with⟨ql,_⟩|⟨_,c',hc',z⟩
   ·have ql':X.env.scope.names.lookup y=some .local :=ql
    rcases kx with kx|kx <;> (rw[ql'] at kx;cases kx)
   ·have:=hcl y c hc
    rw[hc'] at this
    cases this
    obtain⟨o,ho,hd⟩:=z
    exact⟨o,keep _ _ ho,hd⟩
 ·obtain⟨v,o,ho,hd⟩:=I.cell y c (hcl y c h)
  exact⟨v,o,keep _ _ ho,hd⟩
 ·rcases List.mem_append.mp hp with z|z
  ·obtain⟨e,n0,ne,nf,d⟩:=I.pin p z
   refine⟨keep _ _ e,n0,neC _ _ e,fun q=>?_,d⟩
   rcases List.mem_cons.mp (I.stkSub _ q) with r|r
   ·exact ne r
   ·exact nf r
  ·rw[List.mem_singleton.mp z]
   exact⟨hd,I.hok.fresh hD,hDC,new D hD,fun v q=>nomatch q⟩
 ·show σ.length+1=X.N.length+1
  rw[I.len]
theorem kJ {h'':Heap}{s':Shared}{H':Hp}{σ':St}{its:List Value}{n:Nat}{ys:List V}(I:Inv X aa σ H₂ s₂) (hfp:∀b∈fp,fh X aa H₂ b) (hD:s₂.heap.objs.size≤D) (hC:s₂.heap.objs.size≤C)
  (J:Inv (cxC X scope cl x C s₂ H₂ fp aa) [(D,bp its n)] σ' H' s') (hs:Heap.SameBut C s'.heap h'') (r:az ys its) (hz:ys.length≤sizeLine) :
  Inv X aa σ (upd H' D (.lst ys)) { s' with heap:=h'' }∧H' D=none:=by
 obtain⟨eD,nD,neD,_,_⟩:=J.pin (D,bp its n) (List.mem_append_right _ List.mem_cons_self)
 have kp:∀b,b≠C->h''.get? b=s'.heap.get? b:=fun b hb=>hs.2 b hb
 have neC:∀b o,s₂.heap.get? b=some o->b≠C:=fun b o e=>Nat.ne_of_lt (Nat.lt_of_lt_of_le (Heap.lt_size e) hC)
 have neD':∀b o,s₂.heap.get? b=some o->b≠D:=fun b o e=>Nat.ne_of_lt (Nat.lt_of_lt_of_le (Heap.lt_size e) hD)
 have trC:∀b u,H' b=some u->b≠C:=fun b u e z=>by
  have f:H' C=none:=J.free
  rw[z,f] at e;cases e
 have un:=J.base
 refine⟨I.call' (ch:=fp) J.os ⟨fun b o e m hb hx=>?_,fun b o e m hb hx=>?_,fun b o e m hx=>?_,fun b o e hx=>?_,fun b xs e=>?_,fun b o u e=>?_,fun b ps e=>?_⟩ ?_ J.bare (fun b hb=>?_),nD⟩
 ·exact(kp b (neC b o e)).trans (un.keep b o e m hb hx)
 ·obtain⟨sl,q⟩:=un.slot b o e m hb hx
  exact⟨sl,(kp b (neC b o e)).trans q⟩
 ·rw[aq (neD' b o e)];exact un.free b o e m hx
 ·obtain⟨o',q⟩:=un.there b o e hx
  exact⟨o',(kp b (neC b o e)).trans q⟩
 ·have q:=un.tups b xs e
  rw[aq (ar q nD)];exact q
 ·have q:=un.frzs b o u e
  rw[aq (ar q nD)];exact q
 ·obtain⟨m,q⟩:=un.tbls b ps e
  exact⟨m,by rw[aq (ar q nD)];exact q⟩
 ·intro a o e
  by_cases ha:a=D
  ·subst ha
   rw[ag] at e
   cases e
   exact⟨hz,its,n,r,(kp _ neD).trans eD⟩
  ·rw[aq ha] at e
   refine(J.hok a o e).stay (fun b u hb q=>(kp b ?_).trans q) (fun b q=>by rw[aq (ar q nD)];exact q) fun b xs q=>by rw[aq (ar q nD)];exact q
   rcases hb with z|z
   ·rw[z];exact trC a o e
   ·exact trC b _ z
 ·obtain⟨_,h2,_,h4,h5,h6⟩:=hfp b hb
  exact⟨h4,h2,h5,h6⟩
end
def lv (J:It) (σ:St) (tt:TT) (te:TE) (Q:VK) (H1:Hp):Prop:=∃W:Nat->Nat->List V->Hp->Prop,(∃m,W 0 m [] H1)∧∀i m ys H2,W i m ys H2->
 (J.stop i H2∧ys.length≤sizeLine∧∀p,H2 p=none->Q (.ref p) (upd H2 p (.lst ys)))∨
 (J.go i H2∧ys.length<sizeLine∧∃N:List V->Hp->Prop,(∀zs H',N zs H'->∃m',m' < m∧W (i+1) m' zs H')∧∀x H3,J.yld i H2 x H3->tt (some x::σ) H3 fun b H4=>if b=true then te (some x::σ) H4 fun y H5=>N (ys++[y]) H5 else N ys H4)
def tu (wi:TI) (tt:TT) (te:TE):TE:=fun σ H Q=>wi σ H fun J H1=>lv J σ tt te Q H1
def xW:TT:=fun _ H Q=>Q true H
theorem goT {σ:St}{H:Hp}{Q:Bool->Hp->Prop}(h:Q true H):xW σ H Q:=h
def PTs (Y:Cx) (ifs:List Expr) (t:TT):Prop:=
 ∀(aa:List (Addr×Obj)) (s:Shared) (σ:St) (H:Hp) (Q:Bool->Hp->Prop),Inv Y aa σ H s->t σ H Q->
  wpAny (model Y.prog Y.w) Y.A (forIn ifs true fun c r=>if r=true then do let ok ←isTrue c Y.env (eval c Y.env);pure (ForInStep.yield ok) else pure (ForInStep.yield r)) (TP Y aa σ Q) Y.xe s
theorem fu {Y:Cx}:PTs Y [] xW:=fun aa s σ H Q I h=>wpAny_tests_nil ⟨H,I,h⟩
theorem hE {Y:Cx}{c:Expr}{t:TT}(h:PT Y c t):PTs Y [c] t:=fun aa s σ H Q I q=>wpAny_tests_one (h aa s σ H Q I q)
section
variable {X:Cx}{scope:Scope}{x:Str}{elt iter:Expr}{ifs:List Expr}{px pos:Pos}{wi:TI}{tt:TT}{te:TE}
theorem dL {α:Type}{M:Model}{A:Around}{t:Sem α}{Q:α->Shared->Prop}{E:Value->Shared->Prop}{s:Shared}(h:wpAny M A t Q (fun _ _=>False) s):wpAny M A t Q E s:=wpAny_mono h (fun _ _ z=>z) fun _ _ z=>z.elim
theorem dM (hc:X.calm=true) (S:CScope X.env.scope X.N scope x) (hi:PI X (.Name x px) iter wi)
  (ht:∀(cl:List (Str×Addr)) (C:Addr) (s₂:Shared) (H₂:Hp) (fp:List Addr) (aa:List (Addr×Obj)),PTs (cxC X scope cl x C s₂ H₂ fp aa) ifs tt)
  (he:∀(cl:List (Str×Addr)) (C:Addr) (s₂:Shared) (H₂:Hp) (fp:List Addr) (aa:List (Addr×Obj)),PE (cxC X scope cl x C s₂ H₂ fp aa) elt te)
  (hN:X.N.Nodup) (hs:∀v,foldedSetIterable iter X.env v=pure v:=by intro _;rfl):PE X (.ListComp elt [⟨.Name x px,iter,ifs,0⟩] scope pos) (tu wi tt te):=by
 intro aa s σ H Q I h
 obtain⟨cl,hcl0,hcl1,hcl2⟩:=iA (scope:=scope) (env:=X.env) (fun y hy hf=>I.ok.has y.1 (S.free y hy hf))
 rw[eval_ListComp]
 refine wpAny_comprehension_free (use:=none) (E:=X.xe) rfl hs hcl0 S.kind S.names (thn (hi aa s σ H _ I h) fun xv s1 h1=>thn h1 fun itv s2 h2=>?_)
 obtain⟨it,fp,tn,J,H2,e,I2,T,st2,f2,W,⟨m0,w0⟩,turn⟩:=h2
 subst e
 refine wpAny_newObj_type (wpAny_newFunctionEnv S.cell (by intro y hy;cases hy) (fun h₁ hns hsb=>?_) S.kind)
 dsimp only at hns hsb ⊢
 generalize hP:s2.heap.push { cls:=.type "list",dict:=none,data:=.seq ([]:List Value).toArray }=P2 at hns hsb ⊢
 have hC:P2.objs.size=s2.heap.objs.size+1:=by rw[←hP,Heap.size_push]
 have hDC:s2.heap.objs.size≠P2.objs.size:=by rw[hC];exact Nat.ne_of_lt (Nat.lt_succ_self _)
 have hCle:s2.heap.objs.size≤P2.objs.size:=by rw[hC];exact Nat.le_succ _
 have old:∀b o,s2.heap.get? b=some o->h₁.get? b=some o:=fun b o e=>by
  have hb:=Heap.lt_size e
  exact hsb.extBut b o (by rw[hC];exact Nat.ne_of_lt (Nat.lt_succ_of_lt hb)) (Heap.get?_push_of_some _ (hP▸Heap.get?_push_of_some _ e))
 have hd:h₁.get? s2.heap.objs.size=some (bp [] 0):=hsb.extBut _ _ hDC (Heap.get?_push_of_some _ (hP▸Heap.get?_push_size _ rfl))
 have fo:∀b∈fp,∃o,s2.heap.get? b=some o:=fun b hb=>by
  obtain⟨o,e,_⟩:=T.obj _ _ st2 b hb
  exact⟨o,e⟩
 have neD:∀b∈fp,b≠s2.heap.objs.size:=fun b hb=>by
  obtain⟨o,e⟩:=fo b hb
  exact Nat.ne_of_lt (Heap.lt_size e)
 have JY:Inv (cxC X scope cl x P2.objs.size s2 H2 fp aa) [(s2.heap.objs.size,bp [] 0)] (none::σ) H2 { s2 with heap:=h₁,toks:=s2.toks+([]:List (Str×Value)).length }:=
  jj I2 S f2 fo hcl1 hcl2 (Nat.le_refl _) hCle hDC ⟨_,hns⟩ hd old
 have stat:∀{H':Hp}{its:List Value}{n:Nat},(∀b∈fp,H' b=none)->∀b∈fp,fh (cxC X scope cl x P2.objs.size s2 H2 fp aa) [(s2.heap.objs.size,bp its n)] H' b:=fun {H' its n} hn b hb=>by
  obtain⟨_,g1,g2,g3,g4,g5⟩:=f2 b hb
  obtain⟨o,e⟩:=fo b hb
  refine⟨hn b hb,?_,fun z=>?_,.inl hb,fun y c q=>g4 y c (hcl1 y c q),fun p hp=>?_⟩
  ·show b≠P2.objs.size
   exact Nat.ne_of_lt (Nat.lt_of_lt_of_le (Heap.lt_size e) hCle)
  ·rcases List.mem_cons.mp (I2.stkSub b z) with r|r
   ·exact g1 r
   ·exact g2 r
  ·rcases List.mem_append.mp hp with z|z
   ·exact g5 p z
   ·rw[List.mem_singleton.mp z];exact fun q=>neD b hb q.symm
 have nodup:(cxC X scope cl x P2.objs.size s2 H2 fp aa).N.Nodup:=List.nodup_cons.mpr ⟨S.fresh,hN⟩
 have loc:Loc (cxC X scope cl x P2.objs.size s2 H2 fp aa).env.scope x:=.inl (lookup_relabel_local S.var)
 have loop:∀s4:Shared,s4={ s2 with heap:=h₁,toks:=s2.toks+([]:List (Str×Value)).length }->
   codeAny (model X.prog X.w) X.A (.compLoop (.ListComp elt [⟨.Name x px,iter,ifs,0⟩] scope pos) 0 (.ref it) (.ref s2.heap.objs.size) (compEnvC scope cl P2.objs.size X.env))
    (compPost (model X.prog X.w) X.A X.xe none (EP X aa σ Q) (.ref s2.heap.objs.size) P2.objs.size) s4:=by
  rintro s4 rfl
  refine codeAny_loop rfl (fun n s'=>∃i ys its c H' v0,Inv (cxC X scope cl x P2.objs.size s2 H2 fp aa) [(s2.heap.objs.size,bp its c)] (v0::σ) H' s'∧tn i s'.heap∧(∀b∈fp,H' b=none)∧az ys its∧W i n ys H') ?_ m0
   ⟨0,[],[],0,H2,none,JY,T.keep _ _ _ st2 (fun b _ o e=>old b o e),fun b hb=>(f2 b hb).1,.nil,w0⟩
  rintro n s3 ⟨i,ys,its,c,H3,v0,I3,st3,fr3,rv,w3⟩
  show wpAny _ _ ((compTurn (.ListComp elt [⟨.Name x px,iter,ifs,0⟩] scope pos) 0 (.ref it) (.ref s2.heap.objs.size) (compEnvC scope cl P2.objs.size X.env)).onRaise (fun z=>do noteFrame z (compEnvC scope cl P2.objs.size X.env);theTreesLotGoes z)) _ _ s3
  refine wpAny_noted ?_
  rw[compTurn_list]
  rcases turn i n ys H3 w3 with⟨stop,hz,qn⟩|⟨go,hz,NN,hNN,step⟩
  ·refine wpAny_bind (wpAny_standAt (wpAny_bind (thn (T.done (cxC X scope cl x P2.objs.size s2 H2 fp aa) rfl rfl rfl hc i _ s3 _ H3 _ I3 (stat fr3) st3 stop) fun r s5 ⟨hr,I5⟩=>?_)))
   subst hr
   refine wpAny_pure ?_
   obtain⟨mC,hmC,_⟩:=I5.loc
   refine⟨mC,hmC,fun h'' hs''=>?_⟩
   obtain⟨I6,nD⟩:=kJ I2 f2 (Nat.le_refl _) hCle I5 hs'' rv hz
   exact⟨.ref s2.heap.objs.size,_,I6,rfl,qn _ nD⟩
  ·refine wpAny_bind (wpAny_standAt (wpAny_bind (thn (T.item (cxC X scope cl x P2.objs.size s2 H2 fp aa) rfl rfl rfl hc i _ s3 _ H3 _ I3 (stat fr3) st3 go) fun r s5 ⟨u,hr,h5⟩=>?_)))
   subst hr
   refine wpAny_bind (thn h5 fun _ s6 ⟨xv,H6,I6,r6,y6,st6,fr6⟩=>?_)
   have I6':=I6.pinned (stat fr6) (T.obj _ _ st6)
   refine wpAny_bind (wpAny_assign_Name (fg (i:=0) I6' nodup rfl loc r6 (fun s7 I7=>?_) (.inr (lookup_relabel_local S.var))))
   have q7:=step xv H6 y6
   refine wpAny_bind (dL (thn (ht cl P2.objs.size s2 H2 fp aa _ s7 _ H6 _ I7 q7) fun ok s8 ⟨H8,I8,q8⟩=>?_))
   have back:∀{H9:Hp}{s9:Shared},Inv (cxC X scope cl x P2.objs.size s2 H2 fp aa) ([(s2.heap.objs.size,bp its c)]++gm fp s6.heap) (some xv::σ) H9 s9->tn (i+1) s9.heap∧∀b∈fp,H9 b=none:=fun {H9 s9} I9=>by
    refine⟨T.keep _ _ _ st6 fun b hb o e=>(I9.pin (b,o) (List.mem_append_right _ (List.mem_append_right _ (cK hb e)))).1,fun b hb=>?_⟩
    obtain⟨o,e,d⟩:=T.obj _ _ st6 b hb
    exact(I9.pin (b,o) (List.mem_append_right _ (List.mem_append_right _ (cK hb e)))).2.1
   cases ok with
   | false=>
    obtain⟨m',hm,w8⟩:=hNN ys H8 q8
    obtain⟨t8,fr8⟩:=back I8
    exact wpAny_pure ⟨rfl,m',hm,i+1,ys,its,c,H8,_,I8.unpinned,t8,fr8,rv,w8⟩
   | true=>
    refine wpAny_bind (wpAny_bind (dL (thn (he cl P2.objs.size s2 H2 fp aa _ s8 _ H8 _ I8 q8) fun yv s9 ⟨y,H9,I9,r9,q9⟩=>?_)))
    obtain⟨m',hm,w9⟩:=hNN _ _ q9
    obtain⟨t9,fr9⟩:=back I9
    have I9':=I9.unpinned
    obtain⟨eD,nD,neL,nf,_⟩:=I9'.pin (s2.heap.objs.size,bp its c) (List.mem_append_right _ List.mem_cons_self)
    refine wpAny_bind (wpAny_list_append_plain (items:=its.toArray) ⟨c,eD⟩ (fun h10 hp10 hs10=>?_) (by rw[List.size_toArray,←rv.length];exact Nat.le_of_lt hz))
    obtain⟨c',e10⟩:=hp10
    have e10':h10.get? s2.heap.objs.size=some (bp (its++[yv]) c'):=by rw[e10];simp
    have I10:Inv (cxC X scope cl x P2.objs.size s2 H2 fp aa) [] (some xv::σ) H9 { s9 with heap:=h10 }:=by
     have I9e:Inv (cxC X scope cl x P2.objs.size s2 H2 fp aa) [] (some xv::σ) H9 s9:=I9'.pins_of fun p hp=>absurd hp (by simp)
     refine I9e.turned (t':=s9.toks) (it:=s2.heap.objs.size) (fun b o hb q=>(hs10.2 b hb).trans q) nD neL (.inr (Nat.le_refl _)) (fun y cc q=>?_) fun p hp=>?_
     ·obtain⟨v,z⟩:=I2.cell y cc (hcl1 y cc q)
      exact Nat.ne_of_lt z.lt
     ·have hp':p∈X.pn++aa:=by
       have z:p∈(X.pn++aa)++[]:=hp
       simpa using z
      exact Nat.ne_of_lt (Heap.lt_size (I2.pin p hp').1)
    have I11:Inv (cxC X scope cl x P2.objs.size s2 H2 fp aa) [(s2.heap.objs.size,bp (its++[yv]) c')] (some xv::σ) H9 { s9 with heap:=h10 }:=
     I10.pins_of fun p hp=>by rw[List.mem_singleton.mp hp];exact⟨e10',nD,neL,nf,fun v q=>nomatch q⟩
    refine wpAny_pure (wpAny_pure ⟨rfl,m',hm,i+1,ys++[y],its++[yv],c',H9,_,I11,?_,fr9,rv.append (.cons r9 .nil),w9⟩)
    exact T.keep _ _ _ t9 fun b hb o q=>(hs10.2 b (neD b hb)).trans q
 exact codeAny_compStart_list (loop _ rfl) (T.self X.A 0 _ _ _ (T.keep _ _ _ st2 (fun b _ o e=>old b o e)) (loop _ rfl))
end
section
variable {K:W.Frag}{a:Addr}{xs:List V}{tt:TT}{te:TE}{σ:St}{H:Hp}{Q:VK}
theorem oZ (Pv:Nat->List V->Hp->Prop) (h0:Pv 0 [] H) (hl:∀i ys H,i≤xs.length->Pv i ys H->SqT K H a xs∧ys.length≤i) (hz:xs.length≤sizeLine)
  (hs:∀i x ys H,xs[i]?=some x->Pv i ys H->tt (some x::σ) H fun b H4=>if b=true then te (some x::σ) H4 fun y H5=>Pv (i+1) (ys++[y]) H5 else Pv (i+1) ys H4)
  (hd:∀ys H p,Pv xs.length ys H->H p=none->Q (.ref p) (upd H p (.lst ys))):lv (Itt K a) σ tt te Q H:=by
 refine⟨fun i m ys H=>m=xs.length-i∧i≤xs.length∧Pv i ys H,⟨xs.length,by simp,Nat.zero_le _,h0⟩,?_⟩
 rintro i m ys H2 ⟨rfl,hi,p⟩
 obtain⟨q,hn⟩:=hl i ys H2 hi p
 by_cases hlt:i<xs.length
 ·refine .inr ⟨⟨xs,xs[i],q,by simp[hlt]⟩,by omega,Pv (i+1),fun zs H' p'=>⟨xs.length-(i+1),by omega,rfl,hlt,p'⟩,fun x H3 y=>?_⟩
  obtain⟨e,y⟩:=y
  subst e
  exact hs i x ys _ (y xs q) p
 ·have e:i=xs.length:=by omega
  subst e
  exact .inl ⟨⟨xs,q,Nat.le_refl _⟩,by omega,fun b hb=>hd ys H2 b p hb⟩
theorem fv (Pv:Nat->List V->Hp->Prop) (h0:Pv 0 [] H) (hl:∀i ys H,i≤xs.length->Pv i ys H->SqL K H a xs∧ys.length≤i) (hz:xs.length≤sizeLine)
  (hs:∀i x ys H,xs[i]?=some x->Pv i ys H->tt (some x::σ) H fun b H4=>if b=true then te (some x::σ) H4 fun y H5=>Pv (i+1) (ys++[y]) H5 else Pv (i+1) ys H4)
  (hd:∀ys H p,Pv xs.length ys H->H p=none->Q (.ref p) (upd H p (.lst ys))):lv (Itl K a) σ tt te Q H:=by
 refine⟨fun i m ys H=>m=xs.length-i∧i≤xs.length∧Pv i ys H,⟨xs.length,by simp,Nat.zero_le _,h0⟩,?_⟩
 rintro i m ys H2 ⟨rfl,hi,p⟩
 obtain⟨q,hn⟩:=hl i ys H2 hi p
 by_cases hlt:i<xs.length
 ·refine .inr ⟨⟨xs,xs[i],q,by simp[hlt]⟩,by omega,Pv (i+1),fun zs H' p'=>⟨xs.length-(i+1),by omega,rfl,hlt,p'⟩,fun x H3 y=>?_⟩
  obtain⟨e,y⟩:=y
  subst e
  exact hs i x ys _ (y xs q) p
 ·have e:i=xs.length:=by omega
  subst e
  exact .inl ⟨⟨xs,q,Nat.le_refl _⟩,by omega,fun b hb=>hd ys H2 b p hb⟩
theorem kK {lo:Int}{n:Nat}(Pv:Nat->List V->Hp->Prop) (h0:Pv 0 [] H) (hl:∀i ys H,i≤n->Pv i ys H->ys.length≤i) (hz:n≤sizeLine)
  (hs:∀i ys H,i<n->Pv i ys H->tt (some (.int (lo+i))::σ) H fun b H4=>if b=true then te (some (.int (lo+i))::σ) H4 fun y H5=>Pv (i+1) (ys++[y]) H5 else Pv (i+1) ys H4)
  (hd:∀ys H p,Pv n ys H->H p=none->Q (.ref p) (upd H p (.lst ys))):lv (Itr lo n) σ tt te Q H:=by
 refine⟨fun i m ys H=>m=n-i∧i≤n∧Pv i ys H,⟨n,by simp,Nat.zero_le _,h0⟩,?_⟩
 rintro i m ys H2 ⟨rfl,hi,p⟩
 have hn:=hl i ys H2 hi p
 by_cases hlt:i<n
 ·refine .inr ⟨hlt,by omega,Pv (i+1),fun zs H' p'=>⟨n-(i+1),by omega,rfl,hlt,p'⟩,fun x H3 y=>?_⟩
  obtain⟨e,y⟩:=y
  subst e y
  exact hs i ys _ hlt p
 ·have e:i=n:=by omega
  subst e
  exact .inl ⟨Nat.le_refl _,by omega,fun b hb=>hd ys H2 b p hb⟩
end
end L2
namespace L2
open PySem PySem.Spec PyProof.Rows
def e8 (lo:Int) (n:Nat):List V:=(List.range n).map fun(i:Nat)=>V.int (lo+(i:Int))
theorem gO (lo:Int) (n:Nat):(e8 lo n).length=n:=by simp[e8]
theorem kr {xs:List V}{us:List Value}(hl:xs.length=us.length) (h:∀(i:Nat) x u,xs[i]?=some x->us[i]?=some u->aF x u):az xs us:=by
 induction xs generalizing us with
 | nil=>cases us with
  | nil=>exact .nil
  | cons _ _=>simp at hl
 | cons x xs ih=>cases us with
  | nil=>simp at hl
  | cons u us=>exact .cons (h 0 x u rfl rfl) (ih (by simpa using hl) fun i y v h1 h2=>h (i+1) y v (by simpa using h1) (by simpa using h2))
section
variable {X:Cx}
theorem gC:cS X (.type "range") (fun xs H Q=>∃j,xs=[.int j]∧∀p,H p=none->Q (.ref p) (upd H p (.rng 0 j))):=by
 intro aa s σ H xs us Q I r h
 obtain⟨j,rfl,q⟩:=h
 obtain⟨u,rfl,ru⟩:=eE r
 obtain⟨t,rfl⟩:=ru
 refine call_range_1 ⟨.ref s.heap.objs.size,_,I.laid (fun b o e=>Heap.get?_push_of_some _ e) (Nat.le_refl _) ?_,rfl,q _ (I.hok.fresh (Nat.le_refl _))⟩
 exact⟨_,_,_,Heap.get?_push_size _ rfl⟩
theorem eI (hc:X.calm=true):cS X (.type "list") (fun xs H Q=>∃p lo hi,xs=[.ref p]∧H p=some (.rng lo hi)∧-(2 ^ 62)≤lo∧lo<2 ^ 62∧-(2 ^ 62)≤hi∧hi<2 ^ 62∧(hi-lo).toNat≤2 ^ 24∧
  ∀l,H l=none->Q (.ref l) (upd H l (.lst (e8 lo (hi-lo).toNat)))):=by
 intro aa s σ H xs us Q I r h
 obtain⟨p,lo,hi,rfl,hp,h1,h2,h3,h4,h5,q⟩:=h
 obtain⟨u,rfl,ru⟩:=eE r
 cases ru
 obtain⟨t,u,v,e⟩:=I.hok p _ hp
 refine call_list_range (I.ok.hd hc) e (small_one h1 h2 h3 h4) (rangeSize_nat lo hi) h5 fun h' tk acc' c' hk hS hacc=>?_
 refine⟨.ref s.heap.objs.size,_,I.laid (o:=.lst (e8 lo (hi-lo).toNat)) hk (Nat.le_refl _) ?_,rfl,q _ (I.hok.fresh (Nat.le_refl _))⟩
 refine⟨by rw[gO];exact h5,acc'.toList,c',kr (by rw[gO,Array.length_toList,hacc.1]) fun i x u e1 e2=>?_,by simpa using hS⟩
 have e2':acc'[i]?=some u:=by simpa using e2
 obtain⟨t',rfl⟩:=hacc.2 i u e2'
 have hi':i<(hi-lo).toNat:=by
  have:=(List.getElem?_eq_some_iff.mp e1).1
  rw[gO] at this
  exact this
 have:x=V.int (lo+(i:Int)):=by
  simp[e8,hi'] at e1
  exact e1.symm
 subst this
 exact⟨t',by rw[Int.mul_one]⟩
def eN (xs ys:List V):Bool:=xs.length==ys.length&&(xs.zip ys).all fun p=>eqV p.1 p.2
theorem gD (ns ms:List Int):eN (ns.map V.int) (ms.map V.int)=decide (ns=ms):=by
 unfold eN
 induction ns generalizing ms with
 | nil=>cases ms with
  | nil=>rfl
  | cons m ms=>simp
 | cons n ns ih=>cases ms with
  | nil=>simp
  | cons m ms=>
   have:=ih ms
   simp only[List.length_map,List.map_cons,List.length_cons,List.zip_cons_cons,List.all_cons] at this ⊢
   have e:(ns.length+1==ms.length+1)=(ns.length==ms.length):=by
    rw[Bool.eq_iff_iff];simp
   rw[e]
   have e2:eqV (V.int n) (V.int m)=(n==m):=rfl
   rw[e2]
   by_cases hh:n=m
   ·subst hh
    simp only[beq_self_eq_true,Bool.true_and]
    rw[this,Bool.eq_iff_iff];simp
   ·have:(n==m)=false:=by simpa using hh
    rw[this]
    simp[hh]
theorem uU {e:Nat->Bool}:∀(xs ys:List V) (k:Nat),xs.length=ys.length->(∀(i:Nat) x y,xs[i]?=some x->ys[i]?=some y->e (k+i)=eqV x y)->((List.range' k xs.length).all e)=(xs.zip ys).all fun p=>eqV p.1 p.2
 | [],ys,k,_,_=>by simp
 | x::xs,[],k,h,_=>by simp at h
 | x::xs,y::ys,k,h,he=>by
  have ih:=uU xs ys (k+1) (by simpa using h) fun i x' y' h1 h2=>by
   have:=he (i+1) x' y' (by simpa using h1) (by simpa using h2)
   rw[show k+1+i=k+(i+1) by omega]
   exact this
  rw[List.length_cons,List.range'_succ,List.all_cons,List.zip_cons_cons,List.all_cons,ih]
  have:=he 0 x y rfl rfl
  rw[Nat.add_zero] at this
  rw[this]
theorem wF {e:Nat->Bool}{xs ys:List V}{n:Nat}(hn:n=xs.length) (hl:xs.length=ys.length) (he:∀(i:Nat) x y,xs[i]?=some x->ys[i]?=some y->e i=eqV x y):(List.range n).all e=(xs.zip ys).all fun p=>eqV p.1 p.2:=by
 subst hn
 rw[List.range_eq_range']
 exact uU xs ys 0 hl fun i x y h1 h2=>by rw[Nat.zero_add];exact he i x y h1 h2
def iB (xs ys:List V) (j:Nat):Bool:=match xs[j]?,ys[j]? with
 | some x,some y=>eqV x y
 | _,_=>false
theorem lw {A:Around}{s:Shared}{xs ys:List V}{us vs:List Value}(r1:az xs us) (r2:az ys vs) (f1:xs.all cz=true) (f2:ys.all cz=true) :
  ∀j (h1:j<us.toArray.size) (h2:j<vs.toArray.size),SeqAt.EqAt A s us.toArray[j] vs.toArray[j] (iB xs ys j):=by
 intro j h1 h2
 have l1:=r1.length
 have l2:=r2.length
 have h1':j<us.length:=by simpa using h1
 have h2':j<vs.length:=by simpa using h2
 obtain⟨u,e1,q1⟩:=r1.get (i:=j) (x:=xs[j]'(by omega)) (by simp)
 obtain⟨v,e2,q2⟩:=r2.get (i:=j) (x:=ys[j]'(by omega)) (by simp)
 have e1':us.toArray[j]=u:=by
  have:=(List.getElem?_eq_some_iff.mp e1).2
  simpa using this
 have e2':vs.toArray[j]=v:=by
  have:=(List.getElem?_eq_some_iff.mp e2).2
  simpa using this
 have e3:iB xs ys j=eqV (xs[j]'(by omega)) (ys[j]'(by omega)):=by
  unfold iB
  rw[List.getElem?_eq_getElem (by omega),List.getElem?_eq_getElem (by omega)]
 rw[e1',e2',e3]
 exact uO q1 q2 (List.all_eq_true.mp f1 _ (List.getElem_mem _)) (List.all_eq_true.mp f2 _ (List.getElem_mem _))
theorem mY {xs ys:List V}{n:Nat}(hn:n=xs.length) (hl:xs.length=ys.length):(List.range n).all (iB xs ys)=eN xs ys:=by
 unfold eN
 rw[wF hn hl fun i x y h1 h2=>by unfold iB;rw[h1,h2]]
 simp[hl]
theorem mv {xs ys:List V}(h:xs.length≠ys.length):eN xs ys=false:=by
 unfold eN
 have:(xs.length==ys.length)=false:=by simpa using h
 rw[this,Bool.false_and]
def wG (K:W.Frag) (neg:Bool):R2:=fun x y H Q=>∃a b xs ys,x=.ref a∧y=.ref b∧SqL K H a xs∧SqL K H b ys∧xs.all cz=true∧ys.all cz=true∧Q (.bl (if neg then !eN xs ys else eN xs ys)) H
theorem lx (hu:X.A.units<cLine):OpR X (compareOp .Eq) (wG X.K false):=by
 intro aa s σ H x y v u Q I rx ry h
 obtain⟨a,b,xs,ys,rfl,rfl,ha,hb,f1,f2,q⟩:=h
 cases rx
 cases ry
 obtain⟨its,r1,p1,_⟩:=I.list ha
 obtain⟨its2,r2,p2,_⟩:=I.list hb
 have l1:=r1.length
 have l2:=r2.length
 by_cases hl:xs.length=ys.length
 ·refine SeqAt.eq_listAt (e:=iB xs ys) p1.isList p2.isList (by simp;omega) hu (lw r1 r2 f1 f2) ⟨.bl (eN xs ys),H,I,?_,q⟩
  show _=Value.bool _
  rw[mY (by simp;omega) hl]
 ·refine SeqAt.eq_list_lengthsAt p1.isList p2.isList (by simp;omega) hu ⟨.bl (eN xs ys),H,I,?_,q⟩
  show _=Value.bool _
  rw[mv hl]
theorem o0 (hu:X.A.units<cLine):OpR X (compareOp .NotEq) (wG X.K true):=by
 intro aa s σ H x y v u Q I rx ry h
 obtain⟨a,b,xs,ys,rfl,rfl,ha,hb,f1,f2,q⟩:=h
 cases rx
 cases ry
 obtain⟨its,r1,p1,_⟩:=I.list ha
 obtain⟨its2,r2,p2,_⟩:=I.list hb
 have l1:=r1.length
 have l2:=r2.length
 by_cases hl:xs.length=ys.length
 ·refine SeqAt.RcNeAt.lists (e:=iB xs ys) p1.isList p2.isList (by simp;omega) hu (lw r1 r2 f1 f2) _ _ _ _ ⟨.bl (!eN xs ys),H,I,?_,q⟩
  show _=Value.bool _
  rw[mY (by simp;omega) hl]
 ·refine SeqAt.RcNeAt.lists_lengths p1.isList p2.isList (by simp;omega) hu _ _ _ _ ⟨.bl (!eN xs ys),H,I,?_,q⟩
  show _=Value.bool _
  rw[mv hl]
  rfl
theorem uV {x:V}:∀{xs:List V}{us:List Value},az xs us->xs.all cz=true->us.countP (eqU x)=xs.countP fun y=>eqV y x
 | _,_,.nil,_=>rfl
 | y::xs,u::us,.cons r t,f=>by
  rw[List.all_cons,Bool.and_eq_true] at f
  rw[List.countP_cons,List.countP_cons,ls r f.1,uV t f.2]
def As (K:W.Frag):V->List V->Hp->VK->Prop:=fun o vs H Q=>∃p xs x,o=.ref p∧vs=[x]∧SqL K H p xs∧cz x=true∧xs.all cz=true∧Q (.int (xs.countP fun y=>eqV y x)) H
theorem wH:MtM X "list.count" (As X.K):=by
 intro aa s σ H o vs v us Q I ro rv h
 obtain⟨p,xs,x,rfl,rfl,hp,fx,fs,q⟩:=h
 cases ro
 obtain⟨u,rfl,ru⟩:=rv.one
 obtain⟨its,r,pl,hz⟩:=I.list hp
 obtain⟨⟨cls,dd,data,sl⟩,ho,hc,n,hd⟩:=pl.isList
 simp only at hc hd
 subst hc hd
 refine call_meets PySem.F.slot_list_count ⟨_,ho,rfl⟩ PySem.F.entry_list_count (PySem.F.args_list_count_2 _ _) (SeqAt.list_countAt p its.toArray n dd sl u (eqU x)) ⟨ho,fun y hy=>eM ru fx r fs y (by simpa using hy),?_⟩
 refine⟨.int (xs.countP fun y=>eqV y x),H,I.tok _,⟨s.toks,?_⟩,q⟩
 rw[show its.toArray.toList=its from rfl,uV r fs]
def Au (K:W.Frag):V->List V->Hp->VK->Prop:=fun o vs H Q=>∃p xs x j,o=.ref p∧vs=[x]∧SqL K H p xs∧cz x=true∧xs.all cz=true∧(∃y,xs[j]?=some y∧eqV y x=true)∧(∀(i:Nat) y,i<j->xs[i]?=some y->eqV y x=false)∧Q (.int (j:Int)) H
theorem wI:MtM X "list.index" (Au X.K):=by
 intro aa s σ H o vs v us Q I ro rv h
 obtain⟨p,xs,x,j,rfl,rfl,hp,fx,fs,⟨y,hy,hit⟩,hno,q⟩:=h
 cases ro
 obtain⟨u,rfl,ru⟩:=rv.one
 obtain⟨its,r,pl,hz⟩:=I.list hp
 obtain⟨⟨cls,dd,data,sl⟩,ho,hc,n,hd⟩:=pl.isList
 simp only at hc hd
 subst hc hd
 have hl:=r.length
 have hj:j<xs.length:=(List.getElem?_eq_some_iff.mp hy).1
 have hjs:j<its.toArray.size:=by simp;omega
 have at_:∀(i:Nat) (hi:i<its.toArray.size) (z:V),xs[i]?=some z->eqU x its.toArray[i]=eqV z x:=fun i hi z hz=>by
  obtain⟨w,e1,e2⟩:=r.get hz
  have:its.toArray[i]=w:=by
   have:=(List.getElem?_eq_some_iff.mp e1).2
   simpa using this
  rw[this]
  exact ls e2 (List.all_eq_true.mp fs _ (List.mem_of_getElem? hz))
 refine call_meets PySem.F.slot_list_index ⟨_,ho,rfl⟩ PySem.F.entry_list_index (PySem.F.args_list_index_2 _ _)
  (SeqAt.list_indexAt p its.toArray n dd sl u (eqU x) j hjs (by have:=hz;rw[sizeLine_eq] at this;omega) (by rw[at_ j hjs y hy];exact hit) fun m hm hlt=>?_) ⟨ho,fun z hz=>eM ru fx r fs z (by simpa using hz),?_⟩
 ·have hm':m<xs.length:=by omega
  rw[at_ m hm _ (List.getElem?_eq_getElem hm')]
  exact hno m _ hlt (List.getElem?_eq_getElem hm')
 ·exact⟨.int (j:Int),H,I.tok _,⟨s.toks,rfl⟩,q⟩
end
end L2
namespace L2
open PySem PySem.Spec PyProof.Rows
section
variable {X:Cx}
theorem tz {aa:List (Addr×Obj)}{σ:St}{H:Hp}{s:Shared}{o:Obj}{h':Heap}{tk:Nat}(I:Inv X aa σ H s)
  (k:∀b u,b∉[s.heap.objs.size]->(s.heap.push o).get? b=some u->h'.get? b=some u):Inv X aa σ H { s with heap:=h',toks:=tk }:=by
 have I1:Inv X aa σ H { s with heap:=s.heap.push o }:=I.kept (t':=s.toks) fun b u e=>Heap.get?_push_of_some _ e
 obtain⟨f0,f1,_,f3,f4,f5⟩:=I.fpOk (b:=s.heap.objs.size) (Nat.le_refl _) (I.hok.fresh (Nat.le_refl _))
 have z:=Inv.turned (s:={ s with heap:=s.heap.push o }) (h':=h') (t':=tk) (it:=s.heap.objs.size) I1 (fun b u hb e=>k b u (by simpa using hb) e) f0 f1 f3 f4 f5
 exact z
theorem o4 (hc:X.calm=true):cS X (.builtin "all") (fun xs H Q=>∃(p:Addr) (bs:List Bool),xs=[.ref p]∧SqL X.K H p (bs.map V.bl)∧Q (.bl (bs.all id)) H):=by
 intro aa s σ H xs us Q I r h
 obtain⟨p,bs,rfl,hp,q⟩:=h
 obtain⟨u,rfl,ru⟩:=eE r
 cases ru
 obtain⟨its,rv,pl,hz⟩:=I.list hp
 have hl:=rv.length
 rw[List.length_map] at hl
 have hne:p≠s.heap.objs.size:=by
  obtain⟨o,ho,_⟩:=pl.isList
  exact Nat.ne_of_lt (Heap.lt_size ho)
 have tr:TruthOf X.prog X.w X.A.in1 (fun i v=>its.toArray[i]?=some v) (fun i=>(bs[i]?).getD false):=fun i v s' Q' E' hP hQ=>by
  have e:its[i]?=some v:=by simpa using hP
  have hi:i<bs.length:=by have:=(List.getElem?_eq_some_iff.mp e).1;omega
  obtain⟨w,e1,e2⟩:=rv.get (i:=i) (x:=V.bl bs[i]) (by simp[hi])
  rw[e] at e1
  cases e1
  cases e2
  refine wpAny_truthy_bool ?_
  have hQ2:Q' ((bs[i]?).getD false) s':=hQ
  rw[List.getElem?_eq_getElem hi] at hQ2
  exact hQ2
 refine call_all_walk (wpAny_pyIter_list pl.isList ⟨s.heap.objs.size,_,_,_,_,_,_,rfl,Walks.list (A:=X.A.in1) (show X.A.in1.handled=none from I.ok.hd hc) s.heap.objs.size p hne its.toArray,⟨⟨_,Heap.get?_push_size _ rfl,rfl,rfl⟩,pl.isList.at fun o e=>Heap.get?_push_of_some _ e⟩,tr,fun h' tk k=>?_⟩)
 have Iw:Inv X aa σ H { s with heap:=h',toks:=tk }:=tz I k
 refine⟨.bl (bs.all id),H,Iw,?_,q⟩
 show _=Value.bool _
 congr 1
 have:∀(l:List Bool),(List.range l.length).all (fun i=>(l[i]?).getD false)=l.all id:=fun l=>by
  rw[Bool.eq_iff_iff]
  simp only[List.all_eq_true,List.mem_range,id]
  constructor
  ·intro h x hx
   obtain⟨i,hi,e⟩:=List.getElem_of_mem hx
   have:=h i hi
   rw[List.getElem?_eq_getElem hi,e] at this
   exact this
  ·intro h i hi
   rw[List.getElem?_eq_getElem hi]
   exact h _ (List.getElem_mem _)
 rw[List.size_toArray,←hl]
 exact this bs
theorem q0 {prog:Program}{w:World}{A:Around}{E:Value->Shared->Prop}{s:Shared}{l:Addr}{vs:List Value}{Q:List Value->Shared->Prop}(hl:IsTup s.heap l vs.toArray) (hsz:vs.length≤sizeLine)
  (h:Q vs { s with heap:=(s.heap.push (seqObj "list" #[] 0)).update s.heap.objs.size (Obj.mapSeq (·++vs.toArray)) }):wpAny (model prog w) A (collect (.ref l)) Q E s:=by
 obtain⟨o,ho,hc,n,hd⟩:=id hl
 have ho1:(s.heap.push (seqObj "list" #[] 0)).get? l=some o:=Heap.get?_push_of_some _ ho
 have hS:(s.heap.push (seqObj "list" #[] 0)).get? s.heap.objs.size=some (seqObj "list" #[] 0):=Heap.get?_push_size _ rfl
 unfold collect
 refine wpAny_bind (wpAny_runValue (codeAny_builtin entry_proto_collect' ?_))
 show wpAny _ _ (newList [] >>= fun v=>again (.builtin "list.__iadd__" ⟨[v,.ref l],[]⟩)) _ _ s
 refine wpAny_bind (wpAny_newList (wpAny_pure ⟨Code.quiet_builtin _ (by decide +kernel),codeAny_builtin entry_list_iadd' ?_⟩))
 show wpAny _ _ (Builtin.List.listExtendWith (.ref s.heap.objs.size) (.ref l) (.ref s.heap.objs.size)) _ _ _
 unfold Builtin.List.listExtendWith
 refine wpAny_bind (wpAny_typeOf (T:="tuple") ⟨o,ho1,hc⟩ ?_)
 have e1:(Builtin.List.listSameRef (.ref s.heap.objs.size) (.ref l)||Value.type "tuple"==Value.type "list"||Value.type "tuple"==Value.type "tuple")=true:=by
  rw[show(Value.type "tuple"==Value.type "tuple")=true from rfl,Bool.or_true]
 rw[if_pos e1]
 refine wpAny_bind (listItems_at ho1 hd (wpAny_bind (listItems_at hS rfl ?_)))
 rw[if_neg (by simp)]
 refine wpAny_bind (listUpdate_at hS rfl ?_ (Nat.zero_le _) (by rw[Array.size_append,List.size_toArray];simp;omega))
 refine wpAny_pure ?_
 have hU:=get?_update_seq hS (·++vs.toArray)
 refine wpAny_bind (wpAny_load hU ?_)
 show wpAny _ _ (pure ((#[]:Array Value)++vs.toArray).toList) Q E _
 rw[Array.empty_append,List.toList_toArray]
 exact wpAny_pure h
theorem tD {prog:Program}{w:World}{A:Around}{E:Value->Shared->Prop}{s:Shared}{l:Addr}{vs:List Value}{ns:List Int}{Q:Value->Shared->Prop}(hl:IsTup s.heap l vs.toArray) (hI:IntsAre vs ns) (h64:vs.length<64)
  (h:∀(out:Array Value) (ns':List Int),IntsAre out.toList ns'->ns'.Perm ns->ns'.Pairwise (·≤·)->Q (.ref (s.heap.objs.size+1)) { s with heap:=sortedAll s.heap vs out }) :
  wpAny (model prog w) A (call (.builtin "sorted") [.ref l]) Q E s:=by
 refine Calls.call_function_entry kind_sorted plain_sorted entry_sorted (args_sorted1 _) ?_
 have hz:((s.heap.push (seqObj "list" #[] 0)).update s.heap.objs.size (Obj.mapSeq (·++vs.toArray))).objs.size=s.heap.objs.size+1:=by rw[Heap.size_update,size_push']
 have hL:(((s.heap.push (seqObj "list" #[] 0)).update s.heap.objs.size (Obj.mapSeq (·++vs.toArray))).push (seqObj "list" vs.toArray 0)).get? (s.heap.objs.size+1)=some (seqObj "list" vs.toArray 0):=by
  rw[←hz]
  exact Heap.get?_push_size _ rfl
 unfold Builtin.«sorted»
 refine wpAny_bind (m:=checkCount "sorted" 1 1 _) (wpAny_pure (wpAny_bind (q0 hl (by rw[sizeLine_eq];omega) (wpAny_bind (wpAny_newList ?_)))))
 show wpAny _ _ _ _ _ { s with heap:=((s.heap.push (seqObj "list" #[] 0)).update s.heap.objs.size (Obj.mapSeq (·++vs.toArray))).push (seqObj "list" vs.toArray 0) }
 rw[hz]
 refine wpAny_bind (wpAny_holding (wpAny_call_entry PyProof.Rows.slot_list_sort ⟨_,hL,rfl⟩ PyProof.Rows.entry_list_sort (list_sort_tree hL hI h64 fun out ns' a1 a2 a3=>⟨_,rfl,wpAny_pure ⟨_,rfl,h out ns' a1 a2 a3⟩⟩) (args_list_sort _)))
theorem jk:cS X (.builtin "sorted") (fun xs H Q=>∃(p:Addr) (ns:List Int),xs=[.ref p]∧SqT X.K H p (ns.map V.int)∧ns.length<64∧∀(l:Addr) (ns':List Int),H l=none->ns'.Perm ns->ns'.Pairwise (·≤·)->Q (.ref l) (upd H l (.lst (ns'.map V.int)))):=by
 intro aa s σ H xs us Q I r h
 obtain⟨p,ns,rfl,hp,h64,q⟩:=h
 obtain⟨u,rfl,ru⟩:=eE r
 cases ru
 obtain⟨its,rv,pl,hz⟩:=I.tuple hp
 have hl:=rv.length
 rw[List.length_map] at hl
 refine tD pl (tf rv) (by omega) fun out ns' h1 h2 h3=>?_
 obtain⟨e,he⟩:=sortedAll_at s.heap its out
 have hfresh:H (s.heap.objs.size+1)=none:=I.hok.fresh (Nat.le_succ _)
 have hv:az (ns'.map V.int) out.toList:=ji h1
 have hlen:ns'.length=ns.length:=h2.length_eq
 refine⟨.ref (s.heap.objs.size+1),_,I.laid (t':=s.toks) (o:=.lst (ns'.map V.int)) (fun b o z=>sortedAll_old z) (Nat.le_succ _) ⟨by rw[List.length_map,sizeLine_eq];omega,out.toList,e,hv,by simpa [seqObj] using he⟩,rfl,q _ ns' hfresh h2 h3⟩
theorem wJ:OpR X (binaryOp .Add) (fun x y H Q=>∃a b ys,x=.ref a∧y=.ref b∧SqT X.K H a []∧SqT X.K H b ys∧Q (.ref b) H):=by
 intro aa s σ H x y v u Q I rx ry h
 obtain⟨a,b,ys,rfl,rfl,ha,hb,q⟩:=h
 cases rx
 cases ry
 obtain⟨its,r1,p1,_⟩:=I.tuple ha
 obtain⟨its2,r2,p2,_⟩:=I.tuple hb
 cases r1
 obtain⟨⟨cls,dd,data,sl⟩,ho,hc,n,hd⟩:=id p1
 obtain⟨⟨cls2,dd2,data2,sl2⟩,ho2,hc2,n2,hd2⟩:=id p2
 simp only at hc hd hc2 hd2
 subst hc hd hc2 hd2
 exact concat_meets ⟨_,ho,rfl⟩ ⟨_,ho2,rfl⟩ noFill_tuple_add seq_tuple_add PySem.F.slot_tuple_add PySem.F.entry_tuple_add (PySem.F.args_tuple_add_2 _ _)
  (tuple_addW0 a b #[] its2.toArray n n2 dd dd2 sl sl2 rfl) ⟨ho,ho2,⟨.ref b,H,I,rfl,q⟩⟩
end
end L2
namespace L2
open PySem PySem.Spec PyProof.Rows
def PF (X:Cx) (e:Expr) (P:St->Hp->Prop) (k:Nat):Prop:=
 ∀(aa:List (Addr×Obj)) (s:Shared) (σ:St) (H:Hp) (Q:Value->Shared->Prop),Inv X aa σ H s->P σ H->(∀y t s',Inv X aa σ H s'->y.length≤k->Q (.str y t) s')->wpAny (model X.prog X.w) X.A (eval e X.env) Q X.xe s
def PJ (X:Cx) (es:List Expr) (P:St->Hp->Prop) (n:Nat):Prop:=
 ∀(aa:List (Addr×Obj)) (s:Shared) (σ:St) (H:Hp) (acc:Str) (Q:Str->Shared->Prop),Inv X aa σ H s->P σ H->acc.length+n≤sizeLine->(∀out s',Inv X aa σ H s'->out.length≤acc.length+n->Q out s')->
  Joins (model X.prog X.w) X.A X.xe (evalEach es X.env) acc Q s
section
variable {X:Cx}{e:Expr}{es:List Expr}{P R:St->Hp->Prop}{k n:Nat}
theorem gq:PJ X [] (fun _ _=>True) 0:=fun aa s σ H acc Q I _ _ h=>h acc s I (Nat.le_refl _)
theorem bw (h1:PF X e P k) (h2:PJ X es R n) (he:evalEach (e::es) X.env=eval e X.env::evalEach es X.env:=by rfl):PJ X (e::es) (fun σ H=>P σ H∧R σ H) (k+n):=by
 intro aa s σ H acc Q I hp hz hq
 rw[he]
 refine h1 aa s σ H _ I hp.1 fun y t s1 I1 hy=>?_
 have hl:(acc++y).length=acc.length+y.length:=strLen_append acc y
 refine⟨y,t,rfl,by omega,?_⟩
 exact h2 aa s1 σ H _ _ I1 hp.2 (by omega) fun out s2 I2 ho=>hq out s2 I2 (by omega)
theorem fz {v₁ v₂:Expr}{rest:List Expr}{pos:Pos}(h:PJ X (v₁::v₂::rest) P n) (hn:n≤sizeLine):PE X (.JoinedStr (v₁::v₂::rest) pos) (fun σ H Q=>P σ H∧∀x,Q (.str x) H):=by
 intro aa s σ H Q I hq
 have hz:Str.empty.length=0:=rfl
 refine wpAny_JoinedStr (h aa s σ H _ _ I hq.1 (by omega) fun out s' I' ho=>⟨by omega,?_⟩)
 exact⟨.str out,H,I'.tok _,⟨_,rfl⟩,hq.2 out⟩
theorem cJ {x:Str}{j pos}(h:x.length≤k):PF X (.Constant (.str x) j pos) (fun _ _=>True) k:=fun aa s σ H Q I _ hq=>Calls.Constant_str (hq x _ _ (I.tok _) h)
def isI (te:TE):St->Hp->Prop:=fun σ H=>te σ H fun v H'=>H'=H∧∃i:Int,v=.int i∧i.natAbs.log2<1900
def isT (K:W.Frag) (te:TE):St->Hp->Prop:=fun σ H=>te σ H fun v H'=>H'=H∧∃(a:Addr) (ns:List Int),v=.ref a∧SqT K H a (ns.map V.int)∧ns.length≤64∧∀i∈ns,i.natAbs.log2<1900
variable {te:TE}{pos:Pos}
theorem mw {i:Int}(h:i.natAbs.log2<1900):(Str.ofString (toString i)).length≤1901:=by
 rw[PySem.ofString_length]
 exact int_text_length_le (by decide) h
theorem hJ (h:PE X e te):PF X (.FormattedValue e (-1) none pos) (isI te) 1901:=by
 intro aa s σ H Q I hp hq
 refine wpAny_FormattedValue_plain (thn (h aa s σ H _ I hp) fun u s1 ⟨v,H1,I1,r,eH,i,ev,hb⟩=>?_)
 subst eH ev
 obtain⟨t,rfl⟩:=r
 exact wpAny_formatField_int (by omega) (hq _ _ _ (I1.tok _) (mw hb))
theorem yT (h:PE X e te):PF X (.FormattedValue e 114 none pos) (isI te) 1901:=by
 intro aa s σ H Q I hp hq
 refine wpAny_FormattedValue_repr (thn (h aa s σ H _ I hp) fun u s1 ⟨v,H1,I1,r,eH,i,ev,hb⟩=>?_)
 subst eH ev
 obtain⟨t,rfl⟩:=r
 have hl:=mw hb
 have hz:(Str.ofString (toString i)).length≤sizeLine:=by rw[sizeLine_eq];omega
 refine wpAny_pyReprObj_gives (typeIs_int _ i t) F.slot_int_repr F.entry_int_repr (F.args_int_repr_1 _) (gives_int_repr i t (by omega)) ?_ rfl hz
 exact wpAny_formatField_str (hq _ _ _ (I1.tok _) hl) (hq _ _ _ ((I1.tok _).tok _) hl) hz
theorem Av {ts:List Str}{m:Nat}(h:∀t∈ts,t.length≤m):(tupleText ts).length≤ts.length*(m+2)+4:=by
 have hp:∀l:List Str,(∀t∈l,t.length≤m)->piled l≤l.length*(m+2):=fun l=>by
  induction l with
  | nil=>intro _;simp[piled]
  | cons t r ih=>
   intro hh
   have:=ih fun u hu=>hh u (List.mem_cons_of_mem _ hu)
   have h1:=hh t List.mem_cons_self
   rw[piled_cons,List.length_cons,Nat.succ_mul]
   omega
 have hj:(Str.join ", " ts).length≤piled ts:=by
  cases ts with
  | nil=>exact Nat.le_refl _
  | cons t r=>have:=join_length_add (t::r) (by simp);omega
 unfold tupleText
 rw[strLen_append,strLen_append]
 have e1:(("(":String):Str).length=1:=rfl
 have e2:((if ts.length==1 then ",)" else ")":String):Str).length≤2:=by
  split
  ·exact Nat.le_of_eq rfl
  ·exact Nat.le_succ_of_le (Nat.le_of_eq rfl)
 have:=hp ts h
 have e1':(Str.ofString "(").length=1:=rfl
 omega
theorem mx {k:Nat}(hr:Room k X.A) (h:PE X e te):PF X (.FormattedValue e 114 none pos) (isT X.K te) 200000:=by
 intro aa s σ H Q I hp hq
 refine wpAny_FormattedValue_repr (thn (h aa s σ H _ I hp) fun u s1 ⟨v,H1,I1,r,eH,a,ns,ev,ht,hn,hb⟩=>?_)
 subst eH ev
 cases r
 obtain⟨its,rv,pl,hz⟩:=I1.tuple ht
 obtain⟨o,ho,hc,n,hd⟩:=pl
 have hall:∀(ns:List Int) (us:List Value),(∀i∈ns,i.natAbs.log2<1900)->az (ns.map V.int) us->ReprAllK X.prog X.w [] s1.heap 0 us (ns.map fun i=>Str.ofString (toString i)):=by
  intro ns
  induction ns with
  | nil=>intro us _ rr;cases rr;exact .nil
  | cons i ns ih=>
   intro us hh rr
   cases rr with
   | cons r1 r2=>
    obtain⟨t,rfl⟩:=r1
    exact .cons (ReprK.of_is (ReprIs.int t (by have:=hh i List.mem_cons_self;omega)) _ _ _) (ih _ (fun j hj=>hh j (List.mem_cons_of_mem _ hj)) r2)
 have hlen:(tupleText (ns.map fun i=>Str.ofString (toString i))).length≤200000:=by
  have:=Av (ts:=ns.map fun i=>Str.ofString (toString i)) (m:=1901) fun t ht=>by
   obtain⟨i,hi,rfl⟩:=List.mem_map.mp ht
   exact mw (hb i hi)
  rw[List.length_map] at this
  have h2:ns.length*(1901+2)≤64*1903:=Nat.mul_le_mul_right _ hn
  omega
 have hu:=hr.units
 refine wpAny_pyReprObj_tupleK ho hc hd (by simp) (hall ns its hb rv) hr.gd (fun b _=>Clear.nil b) (by omega) (fun b o z=>z) (fun h' u tk hk=>?_) (by rw[sizeLine_eq];omega)
 have I2:Inv X aa σ H1 { s1 with heap:=h',toks:=tk }:=I1.kept hk
 exact wpAny_formatField_str (hq _ _ _ I2 hlen) (hq _ _ _ (I2.tok _) hlen) (by rw[sizeLine_eq];omega)
end
end L2
namespace L2
open PySem PySem.Spec PyProof.Rows
def iC (a:Addr) (cls:Value):HO:=.ext fun h=>∃oe vs,h.get? a=some oe∧oe.cls=cls∧oe.data=.fields vs
theorem yU {P:Program}{w:World}{H:Hp}{h:Heap}{a T:Addr}{cls:Value}(x:Trc h a cls T):bc P w H h a (iC a cls):=by
 obtain⟨_,oe,vs,_,_,e1,e2,e3,_⟩:=x
 exact⟨⟨oe,vs,e1,e2.1,e3⟩,⟨oe,e1⟩,fun h1 h2 ⟨o,ws,q1,q2,q3⟩ k=>⟨o,ws,k _ q1,q2,q3⟩⟩
section
variable {X:Cx}{aa:List (Addr×Obj)}{σ:St}{H H':Hp}{s:Shared}{h':Heap}
theorem Inv.stepN {g':Array GenState}{t':Nat}{d':Drawn}{ch:List Addr}(I:Inv X aa σ H s)
  (hch:∀b∈ch,X.s₀.heap.get? b=none∧b≠X.env.locals∧(∀x c,X.env.cells.lookup x=some c->c≠b)∧∀p∈X.pn++aa,p.1≠b)
  (keep:∀b o,b∉frs X.stack->b∉ch->s.heap.get? b=some o->h'.get? b=some o)
  (slot:∀b o,b∈frs X.stack->s.heap.get? b=some o->∃sl,h'.get? b=some { o with slots:=sl })
  (hex:X.ex=[]) (hso:X.stack=X.env::X.outer) (hchH:∀b∈ch,H b=none) (hg:AllBare g') :
  Inv X aa σ H { s with heap:=h',gens:=g',drawn:=d',toks:=t' }:=by
 have noex:∀b,b∉X.ex:=fun b z=>by rw[hex] at z;exact absurd z (by simp)
 have nfr:∀b o,X.s₀.heap.get? b=some o->b∉X.fs->b∉frs X.stack:=fun b o e1 nb z=>by
  rcases List.mem_cons.mp (I.stkSub b z) with r|r
  ·exact absurd (Nat.lt_of_lt_of_le (Heap.lt_size e1) I.ok.above) (by rw[r];exact Nat.lt_irrefl _)
  ·exact nb r
 have nch:∀b o,X.s₀.heap.get? b=some o->b∉ch:=fun b o e1 z=>by rw[(hch b z).1] at e1;cases e1
 have ns:∀m,s.heap.Ns X.env.locals m->h'.Ns X.env.locals m:=fun m hm=>by
  obtain⟨o,es,ep,ho,r⟩:=hm
  by_cases hb:X.env.locals∈frs X.stack
  ·obtain⟨sl,e⟩:=slot _ o hb ho
   exact⟨_,es,ep,e,r⟩
  ·exact⟨o,es,ep,keep _ o hb (fun z=>(hch _ z).2.1 rfl) ho,r⟩
 have cellK:∀x c,X.env.cells.lookup x=some c->∀v,s.heap.IsCell c v->h'.IsCell c v:=fun x c e v ⟨o,ho,hd⟩=>by
  by_cases hb:c∈frs X.stack
  ·obtain⟨sl,q⟩:=slot c o hb ho
   exact⟨_,q,hd⟩
  ·exact⟨o,keep c o hb (fun z=>(hch c z).2.2.1 x c e rfl) ho,hd⟩
 refine⟨I.ok,I.os,hg,⟨fun b o e n hb hx=>?_,fun b o e n hb hx=>?_,fun b o e n hx=>I.base.free b o e n hx,fun b o e hx=>?_,I.base.tups,I.base.frzs,I.base.tbls⟩,?_,fun x c e=>?_,I.free,I.freeC,fun p hp=>?_,fun a o e=>?_,I.len⟩
 ·exact keep b o (nfr b o e hb) (nch b o e) (I.base.keep b o e n hb hx)
 ·obtain⟨sl,e1⟩:=I.base.slot b o e n hb hx
  obtain⟨sl',e2⟩:=slot b _ (xV hso hb) e1
  exact⟨sl',e2⟩
 ·obtain⟨o',e1⟩:=I.base.there b o e hx
  by_cases hb:b∈frs X.stack
  ·obtain⟨sl,e2⟩:=slot b o' hb e1
   exact⟨_,e2⟩
  ·exact⟨o',keep b o' hb (nch b o e) e1⟩
 ·obtain⟨m,hn,hl⟩:=I.loc
  refine⟨m,ns m hn,fun i x v e1 e2 e3=>?_⟩
  obtain⟨u,r,l⟩:=hl i x v e1 e2 e3
  refine⟨u,r,?_⟩
  rcases l with l|⟨k,c,e,z⟩
  ·exact .inl l
  ·exact .inr ⟨k,c,e,cellK x c e _ z⟩
 ·obtain⟨v,z⟩:=I.cell x c e
  exact⟨v,cellK x c e v z⟩
 ·obtain⟨e,n,ne,nf,d⟩:=I.pin p hp
  refine⟨keep p.1 p.2 (fun z=>?_) (fun z=>(hch p.1 z).2.2.2 p hp rfl) e,n,ne,nf,d⟩
  rcases List.mem_cons.mp (I.stkSub _ z) with r|r
  ·exact ne r
  ·exact nf r
 ·refine(I.hok a o e).stay (fun b u hb q=>keep b u (fun z=>?_) (fun z=>?_) q) (fun _ z=>z) fun _ _ z=>z
  ·have n:=I.stkFree b z
   rcases hb with r|r
   ·rw[r,e] at n;cases n
   ·rw[r] at n;cases n
  ·have n:=hchH b z
   rcases hb with r|r
   ·rw[r,e] at n;cases n
   ·rw[r] at n;cases n
theorem Inv.track {D:Addr}{o:HO}(I:Inv X aa σ H s) (hD:H D=none) (h0:X.s₀.heap.get? D=none) (hL:D≠X.env.locals) (hc:∀x c,X.env.cells.lookup x=some c->c≠D) (hp:∀p∈X.pn++aa,p.1≠D)
  (hok:bc X.prog X.w (upd H D o) s.heap D o):Inv X aa σ (upd H D o) s:=by
 have ne:∀b u,H b=some u->b≠D:=fun b u e z=>by rw[z,hD] at e;cases e
 have n0:∀b ob,X.s₀.heap.get? b=some ob->b≠D:=fun b ob e z=>by rw[z,h0] at e;cases e
 refine⟨I.ok,I.os,I.bare,⟨I.base.keep,I.base.slot,fun b ob e n hx=>by rw[aq (n0 b ob e)];exact I.base.free b ob e n hx,I.base.there,fun b xs e=>?_,fun b ob u e=>?_,fun b ps e=>?_⟩,I.loc,I.cell,by rw[aq (Ne.symm hL)];exact I.free,
  fun x c e=>by rw[aq (hc x c e)];exact I.freeC x c e,fun p hpp=>?_,fun a u e=>?_,I.len⟩
 ·have q:=I.base.tups b xs e
  rw[aq (ne b _ q)];exact q
 ·have q:=I.base.frzs b ob u e
  rw[aq (ne b _ q)];exact q
 ·obtain⟨m,q⟩:=I.base.tbls b ps e
  exact⟨m,by rw[aq (ne b _ q)];exact q⟩
 ·obtain⟨e,n,r⟩:=I.pin p hpp
  exact⟨e,by rw[aq (hp p hpp)];exact n,r⟩
 ·by_cases ha:a=D
  ·subst ha
   rw[ag] at e
   cases e
   exact hok
  ·rw[aq ha] at e
   exact(I.hok a u e).stay (fun b v _ q=>q) (fun b q=>by rw[aq (ne b _ q)];exact q) fun b xs q=>by rw[aq (ne b _ q)];exact q
theorem Inv.forget {i:Nat}{x:Str}{m:Str->Option Value}{v:Option Value}{t':Nat}(I:Inv X aa σ H s) (hN:X.N.Nodup) (hi:X.N[i]?=some x)
  (hl:∀(i:Nat) (x:Str) (v:V),X.N[i]?=some x->σ[i]?=some (some v)->Vis X.env.scope x->∃u,aF v u∧Ab X.env s.heap m x u)
  (hn':h'.Ns X.env.locals (fun y=>if y=x then v else m y)) (hs:Heap.SameBut X.env.locals s.heap h'):Inv X aa (σ.set i none) H { s with heap:=h',toks:=t' }:=by
 have hiσ:i<σ.length:=by rw[I.len];exact(List.getElem?_eq_some_iff.mp hi).1
 have ne0:∀b o,X.s₀.heap.get? b=some o->b≠X.env.locals:=fun b o e=>Nat.ne_of_lt (Nat.lt_of_lt_of_le (Heap.lt_size e) I.ok.above)
 refine⟨I.ok,I.os,I.bare,⟨fun b o e n hb hx=>(hs.2 b (ne0 b o e)).trans (I.base.keep b o e n hb hx),fun b o e n hb hx=>?_,I.base.free,fun b o e hx=>?_,I.base.tups,I.base.frzs,I.base.tbls⟩,⟨_,hn',fun j y v' e1 e2 e3=>?_⟩,fun y c e=>?_,I.free,I.freeC,fun p hp=>?_,fun a o e=>?_,by simpa using I.len⟩
 ·obtain⟨sl,e1⟩:=I.base.slot b o e n hb hx
  exact⟨sl,(hs.2 b (ne0 b o e)).trans e1⟩
 ·obtain⟨o',e1⟩:=I.base.there b o e hx
  exact⟨o',(hs.2 b (ne0 b o e)).trans e1⟩
 ·by_cases hj:j=i
  ·subst hj
   rw[List.getElem?_set_self hiσ] at e2
   cases e2
  ·rw[List.getElem?_set_ne (Ne.symm hj)] at e2
   obtain⟨u',r',q⟩:=hl j y v' e1 e2 e3
   refine⟨u',r',?_⟩
   rcases q with⟨k,e⟩|⟨k,c,e,z⟩
   ·refine .inl ⟨k,?_⟩
    have:y≠x:=fun e=>hj (kH hN e1 (e▸hi))
    simp[this,e]
   ·exact .inr ⟨k,c,e,z.sameBut hs (I.cne y c e)⟩
 ·obtain⟨w',z⟩:=I.cell y c e
  exact⟨w',z.sameBut hs (I.cne y c e)⟩
 ·obtain⟨e,n,ne,nf,d⟩:=I.pin p hp
  exact⟨(hs.2 p.1 ne).trans e,n,ne,nf,d⟩
 ·refine(I.hok a o e).stay (fun c w' hc q=>(hs.2 c ?_).trans q) (fun _ q=>q) fun _ _ q=>q
  rintro rfl
  have hf:=I.free
  rcases hc with z|hc
  ·rw[←z] at e;rw[hf] at e;cases e
  ·rw[hf] at hc;cases hc
abbrev Cx.inn (X:Cx) (A':Around) (c:Bool) (pn':List (Addr×Obj)) (xe':Value->Shared->Prop):Cx:={ X with A:=A',calm:=c,pn:=pn',xe:=xe' }
theorem Inv.inn {A':Around}{c:Bool}{pn' pins':List (Addr×Obj)}{xe':Value->Shared->Prop}(I:Inv X aa σ H s) (hf:A'.frames=X.A.frames) (hh:c=true->A'.handled=none) (hp:∀p∈pn'++pins',p∈X.pn++aa) :
  Inv (X.inn A' c pn' xe') pins' σ H s:=
 ⟨⟨I.ok.mod,I.ok.kind,I.ok.glob,I.ok.blt,I.ok.above,I.ok.inj,I.ok.has,I.ok.cab,hh,hf.trans I.ok.frames,I.ok.stk,I.ok.exf,I.ok.bs,I.ok.bsz,I.ok.noex,I.ok.exfs,I.ok.funs,I.ok.frf⟩,
  I.os,I.bare,I.base,I.loc,I.cell,I.free,I.freeC,fun p h=>I.pin p (hp p h),I.hok,I.len⟩
theorem Inv.out {A':Around}{c:Bool}{pn' pins':List (Addr×Obj)}{xe':Value->Shared->Prop}(I:Inv (X.inn A' c pn' xe') pins' σ H s) (hf:X.A.frames=some X.stack) (hh:X.calm=true->X.A.handled=none) (hp:∀p∈X.pn++aa,p∈pn'++pins') :
  Inv X aa σ H s:=
 ⟨⟨I.ok.mod,I.ok.kind,I.ok.glob,I.ok.blt,I.ok.above,I.ok.inj,I.ok.has,I.ok.cab,hh,hf,I.ok.stk,I.ok.exf,I.ok.bs,I.ok.bsz,I.ok.noex,I.ok.exfs,I.ok.funs,I.ok.frf⟩,
  I.os,I.bare,I.base,I.loc,I.cell,I.free,I.freeC,fun p h=>I.pin p (hp p h),I.hok,I.len⟩
end
theorem mZ {M:Model}{K:W.Frag}{h:Heap}{C:Addr}(I:K.In h) (hc:W.isClsIn K C=true):W.Looks M h (isType (.ref C)) true:=by
 unfold W.isClsIn W.clsIn at hc
 split at hc
 ·rename_i c' d' cd' sl' lk
  intro A Q E s k q
  unfold isType loadHead
  exact wpAny_bind (wpAny_loadPart (k _ _ (I _ _ lk)) (wpAny_pure q))
 ·cases hc
theorem tE {M:Model}{A:Around}{E:Value->Shared->Prop}{K:W.Frag}{s:Shared}{e C CN:Addr}{oe:Obj}{Q:Bool->Shared->Prop}(I:K.In s.heap) (he:s.heap.get? e=some oe) (hc:oe.cls=.ref C)
  (hnt:W.instIn K (.ref CN) (.type "tuple")=some false) (hxc:W.mroIn K CN (.type "BaseException")=some true) (hcl:W.isClsIn K CN=true) (hm:W.mroIn K C (.ref CN)=some true) (hq:Q true s) :
  wpAny M A (excMatches (.ref e) (.ref CN)) Q E s:=by
 have L1:=W.looks_instIn (M:=M) I hnt
 have L2:=W.looks_mroIn (M:=M) I hxc
 have L3:=W.looks_mroIn (M:=M) I hm
 have L0:W.Looks M s.heap (isType (.ref CN)) true:=mZ I hcl
 have LE:W.Looks M s.heap (isExcClass (.ref CN)) true:=L0.andThen (by simpa using L2)
 have LT:W.Looks M s.heap (typeOf (.ref e)) (.ref C):=hc▸(W.Looks.ld he).andThen .now
 obtain⟨hp,g,d,tk,os⟩:=s
 unfold excMatches
 refine wpAny_bind (L1.at ?_)
 simp only[Bool.false_eq_true,if_false,pure_bind,List.forIn_cons,List.forIn_nil,bind_assoc]
 refine wpAny_bind (LE.at ?_)
 simp only[Bool.not_true,Bool.false_eq_true,if_false,pure_bind]
 refine wpAny_bind (LT.at ?_)
 refine wpAny_bind (L3.at ?_)
 simp only[if_true,pure_bind]
 exact wpAny_pure hq
def EG (K:W.Frag) (CN:Addr) (tb:(St->XK)->TS) (ie:Nat) (ts:TS):TS:=fun D σ H=>
 tb (fun σ' cls _ H'=>∃C,cls=.ref C∧W.mroIn K C (.ref CN)=some true∧∀e,H' e=none->ts { nx:=fun σ2 H2=>D.nx (σ2.set ie none) H2,rt:=fun _ _=>False } (σ'.set ie (some (.ref e))) (upd H' e (iC e (.ref C)))) D σ H
section
variable {X:Cx}{body suite:List Stmt}{b₀:Stmt}{x nm:Str}{CN:Addr}{np hpos pos:Pos}{ie:Nat}{tb:(St->XK)->TS}{ts:TS}
theorem Aw (hc:X.calm=true) (hex:X.ex=[]) (hso:X.stack=X.env::X.outer) (hfr:X.env.frame=some X.env.locals) (hg:Gl X x) (hm:X.mg x=some (.ref CN))
  (hnt:W.instIn X.K (.ref CN) (.type "tuple")=some false) (hxc:W.mroIn X.K CN (.type "BaseException")=some true) (hcl:W.isClsIn X.K CN=true)
  (hN:X.N.Nodup) (hi:X.N[ie]?=some nm) (hl:X.env.scope.names.lookup nm=some .local)
  (hb:∀(pn':List (Addr×Obj)) (xe':Value->Shared->Prop) (E:St->XK),cI (CX1 X.prog X.w) (X.inn X.A X.calm pn' xe') E->PSs (X.inn X.A X.calm pn' xe') body (tb E))
  (hs:∀(A':Around) (pn':List (Addr×Obj)) (xe':Value->Shared->Prop),PSs (X.inn A' false pn' xe') (b₀::suite) ts) (hd:(x==("__debug__":Str))=false:=by decide) :
  PS X (.Try body [.ExceptHandler (some (.Name x np)) (some nm) (b₀::suite) hpos] [] [] pos) (EG X.K CN tb ie ts):=by
 intro aa s σ H D I h
 refine wpAny_Try_except ?_
 have pass:cI (CX1 X.prog X.w) (X.inn X.A X.calm (X.pn++aa) (fun e s₁=>wpAny (model X.prog X.w) X.A (noteFrame e X.env) (fun _ s₂=>wpAny (model X.prog X.w) X.A (setFlight e none) (fun _ s₃=>
   wpAny (model X.prog X.w) X.A (handleBy e X.env [.ExceptHandler (some (.Name x np)) (some nm) (b₀::suite) hpos]) (SP X aa D) X.xe s₃) X.xe s₂) X.xe s₁))
   (fun σ' cls _ H'=>∃C,cls=.ref C∧W.mroIn X.K C (.ref CN)=some true∧∀e,H' e=none->ts { nx:=fun σ2 H2=>D.nx (σ2.set ie none) H2,rt:=fun _ _=>False } (σ'.set ie (some (.ref e))) (upd H' e (iC e (.ref C)))):=by
  intro pins' σ' H' s' e s'' I' hx
  obtain⟨ea,cls,H'',rfl,ho,hgn,un,hok,fl,C,rfl,hmro,q⟩:=hx
  have Ic:=I'.call' (ch:=[]) ho un hok hgn (fun b z=>absurd z (by simp))
  have I1:Inv X aa σ' H'' s'':=Ic.out (aa:=aa) I.ok.frames I.ok.hd fun p hp=>List.mem_append_left _ hp
  obtain⟨T,trc,hT0,hTH⟩:=fl.tr
  have old:∀b,s'.heap.get? b=none->X.s₀.heap.get? b=none:=fun b hb'=>by
   cases e1:X.s₀.heap.get? b with
   | none=>rfl
   | some o=>
    obtain⟨o',e2⟩:=I'.base.there b o e1 (by intro z;rw[show(X.inn X.A X.calm (X.pn++aa) _).ex=X.ex from rfl,hex] at z;exact absurd z (by simp))
    rw[hb'] at e2
    cases e2
  have apart:∀b,s'.heap.get? b=none->X.s₀.heap.get? b=none∧b≠X.env.locals∧(∀y c,X.env.cells.lookup y=some c->c≠b)∧∀p∈X.pn++aa,p.1≠b:=fun b hb'=>by
   refine⟨old b hb',?_,fun y c hy z=>?_,fun p hp z=>?_⟩
   ·rintro rfl
    obtain⟨m,⟨o,_,_,e2,_⟩,_⟩:=I'.loc
    have e3:s'.heap.get? X.env.locals=some o:=e2
    rw[hb'] at e3
    cases e3
   ·obtain⟨v,o,e2,_⟩:=I'.cell y c hy
    rw[z,hb'] at e2
    cases e2
   ·have e2:=(I'.pin p (List.mem_append_left _ hp)).1
    rw[z,hb'] at e2
    cases e2
  have hch:∀b∈[ea,T],X.s₀.heap.get? b=none∧b≠X.env.locals∧(∀y c,X.env.cells.lookup y=some c->c≠b)∧∀p∈X.pn++aa,p.1≠b:=fun b hb'=>by
   rcases List.mem_cons.mp hb' with z|z
   ·rw[z];exact apart ea fl.new
   ·rw[List.mem_singleton.mp z];exact apart T hT0
  have hchH:∀b∈[ea,T],H'' b=none:=fun b hb'=>by
   rcases List.mem_cons.mp hb' with z|z
   ·rw[z];exact fl.free
   ·rw[List.mem_singleton.mp z];exact hTH
  have hB:∀b∈[ea,T],(W.hideAll s''.heap (frs X.stack++[ea,T])).get? b=none:=fun b hb'=>W.hideAll_none _ (List.mem_append_right _ hb')
  have hst:(W.hideAll s''.heap (frs X.stack++[ea,T])).StaysIn s''.heap:=fun b o z=>W.of_hideAll _ z
  have hff:s''.heap.FunFrames (W.hideAll s''.heap (frs X.stack++[ea,T])) X.stack:=W.funFrames_hide I1.stack fun env he a ha=>List.mem_append_left _ (List.mem_filterMap.mpr ⟨env,he,ha⟩)
  obtain⟨a0,tw⟩:=trc.traced (hB T (by simp))
  show wpAny (model X.prog X.w) X.A (noteFrame (.ref ea) X.env) _ X.xe s''
  refine wpAny_noteFrame_onW (outer:=X.outer) (L:=X.env.locals) (hso▸I.ok.frames) (hso▸hff) hfr tw hst (hB ea (by simp)) fun h4 hN4=>?_
  obtain⟨n1,n2,n3,n4⟩:=hN4
  refine wpAny_setFlight_noneW n1 n2 n3 fun h5 m1 m2 m3 m4=>?_
  have kp5:∀b o,b∉frs X.stack->b∉[ea,T]->s''.heap.get? b=some o->h5.get? b=some o:=fun b o z1 z2 e1=>m1 b o (W.hideAll_get _ e1 fun m=>(List.mem_append.mp m).elim z1 z2)
  have sl5:∀b o,b∈frs X.stack->s''.heap.get? b=some o->∃sl,h5.get? b=some { o with slots:=sl }:=fun b o hb' e1=>by
   obtain⟨o',e2,nd⟩:=jQ I1 hb'
   rw[e1] at e2
   cases e2
   obtain⟨sl,e3⟩:=n4 b o e1 nd
   exact⟨sl,m4 b _ e3 nd⟩
  have I5:Inv X aa σ' H'' { s'' with heap:=h5 }:=I1.stepN (g':=s''.gens) (d':=s''.drawn) (t':=s''.toks) hch kp5 sl5 hex hso hchH I1.bare
  have hfm:(X.A.mark (some (.ref ea))).frames=X.A.frames:=rfl
  refine wpAny_handleBy_cons (codeAny_handlers_test ?_) (by intro q;cases q)
  have J5:Inv (X.inn (X.A.mark (some (.ref ea))) false (X.pn++aa) (notedBy (model X.prog X.w) (X.A.mark (some (.ref ea))) X.env (cameBackBy (model X.prog X.w) X.A X.env X.xe))) [] σ' H'' { s'' with heap:=h5 }:=
   I5.inn hfm (fun z=>by cases z) fun p hp=>by simpa using hp
  refine gS J5 hg hm ?_ hd
  obtain⟨T5,trc5,hT5⟩:=oX m3
  obtain⟨_,oe,_,_,_,e5,c5,_⟩:=id trc5
  refine tE I5.kIn e5 c5.1 hnt hxc hcl hmro ?_
  refine codeAny_handlers_suite_as ?_
  refine wpAny_setFlight_noneW m1 m2 m3 fun h6 p1 p2 p3 p4=>?_
  have kp6:∀b o,b∉frs X.stack->b∉[ea,T]->s''.heap.get? b=some o->h6.get? b=some o:=fun b o z1 z2 e1=>p1 b o (W.hideAll_get _ e1 fun m=>(List.mem_append.mp m).elim z1 z2)
  have sl6:∀b o,b∈frs X.stack->s''.heap.get? b=some o->∃sl,h6.get? b=some { o with slots:=sl }:=fun b o hb' e1=>by
   obtain⟨o',e2,nd⟩:=jQ I1 hb'
   rw[e1] at e2
   cases e2
   obtain⟨sl,e3⟩:=sl5 b o hb' e1
   exact⟨sl,p4 b _ e3 nd⟩
  have I6:Inv X aa σ' H'' { s'' with heap:=h6 }:=I1.stepN (g':=s''.gens) (d':=s''.drawn) (t':=s''.toks) hch kp6 sl6 hex hso hchH I1.bare
  obtain⟨T6,trc6,_⟩:=oX p3
  have I7:Inv X aa σ' (upd H'' ea (iC ea (.ref C))) { s'' with heap:=h6 }:=
   I6.track fl.free (hch ea (by simp)).1 (hch ea (by simp)).2.1 (hch ea (by simp)).2.2.1 (hch ea (by simp)).2.2.2 (yU trc6)
  have J7:Inv (X.inn (X.A.mark (some (.ref ea))) false (X.pn++aa) (fun _ _=>False)) [] σ' (upd H'' ea (iC ea (.ref C))) { s'' with heap:=h6 }:=
   I7.inn hfm (fun z=>by cases z) fun p hp=>by simpa using hp
  refine fg (X:=X.inn (X.A.mark (some (.ref ea))) false (X.pn++aa) (fun _ _=>False)) (i:=ie) (v:=.ref ea) J7 hN hi (.inl hl) rfl (fun s8 J8=>?_) (.inr hl)
  refine dL (thn (hs _ _ _ [] s8 _ _ _ J8 (q ea fl.free)) fun f s9 q9=>?_)
  cases f with
  | next=>
   obtain⟨σ9,H9,J9,d9⟩:=q9
   have J9':Inv X aa σ9 H9 s9:=J9.out (aa:=aa) I.ok.frames I.ok.hd fun p hp=>by simpa using hp
   obtain⟨m9,hn9,hl9⟩:=id J9'.loc
   refine wpAny_nameGoes_keeps hl hn9 (by rw[I.ok.kind];rfl) fun h10 v hn10 hs10=>?_
   exact⟨σ9.set ie none,H9,J9'.forget hN hi hl9 hn10 hs10,d9⟩
  | ret u=>obtain⟨v,σ9,H9,J9,r9,d9⟩:=q9;exact d9.elim
  | brk=>obtain⟨σ9,H9,J9,d9⟩:=q9;exact d9.elim
  | cont=>obtain⟨σ9,H9,J9,d9⟩:=q9;exact d9.elim
 have Ib:Inv (X.inn X.A X.calm (X.pn++aa) (fun e s₁=>wpAny (model X.prog X.w) X.A (noteFrame e X.env) (fun _ s₂=>wpAny (model X.prog X.w) X.A (setFlight e none) (fun _ s₃=>
   wpAny (model X.prog X.w) X.A (handleBy e X.env [.ExceptHandler (some (.Name x np)) (some nm) (b₀::suite) hpos]) (SP X aa D) X.xe s₃) X.xe s₂) X.xe s₁)) [] σ H s:=I.inn rfl I.ok.hd fun p hp=>by simpa using hp
 refine thn (hb _ _ _ pass [] s σ H D Ib h) fun f s1 q1=>?_
 have bk:∀{σ1:St}{H1:Hp},Inv (X.inn X.A X.calm (X.pn++aa) (fun e s₁=>wpAny (model X.prog X.w) X.A (noteFrame e X.env) (fun _ s₂=>wpAny (model X.prog X.w) X.A (setFlight e none) (fun _ s₃=>
   wpAny (model X.prog X.w) X.A (handleBy e X.env [.ExceptHandler (some (.Name x np)) (some nm) (b₀::suite) hpos]) (SP X aa D) X.xe s₃) X.xe s₂) X.xe s₁)) [] σ1 H1 s1->Inv X aa σ1 H1 s1:=fun {σ1 H1} J=>J.out (aa:=aa) I.ok.frames I.ok.hd fun p hp=>by simpa using hp
 cases f with
 | next=>obtain⟨σ1,H1,J1,d1⟩:=q1;exact wpAny_execs_nil ⟨σ1,H1,bk J1,d1⟩
 | ret u=>obtain⟨v,σ1,H1,J1,r1,d1⟩:=q1;exact⟨v,σ1,H1,bk J1,r1,d1⟩
 | brk=>obtain⟨σ1,H1,J1,d1⟩:=q1;exact⟨σ1,H1,bk J1,d1⟩
 | cont=>obtain⟨σ1,H1,J1,d1⟩:=q1;exact⟨σ1,H1,bk J1,d1⟩
end
end L2
namespace L2
open PySem PySem.Spec PyProof.Rows
structure ExcI (K:W.Frag) (C:Addr):Prop where
 cl:W.isClsIn K C=true
 ga:W.findIn K (.ref C) "__getattribute__"=some (some (.builtin "BaseException.__getattribute__"))
 gt:W.findIn K (.ref C) "__getattr__"=some none
 cls:W.findIn K (.ref C) "__class__"=some (some (.builtin "object.__class__"))
 ob:W.mroIn K C (.type "object")=some true
 be:W.mroIn K C (.type "BaseException")=some true
section
variable {prog:Program}{w:World}{A:Around}{E:Value->Shared->Prop}{K:W.Frag}{h:Heap}{g:Array GenState}{d:Drawn}{t:Nat}{os:OsState}{a C:Addr}{o:Obj}
theorem tF {R:Result->Shared->Prop}(X:K.In h) (F0:ExcI K C) (hx:h.get? a=some o) (hc:o.cls=.ref C) (hq:R (.ok (.ret (.ref C))) ⟨h,g,d,t,os⟩) :
  codeAny (model prog w) A (.call (.builtin "getset_descriptor.__get__") ⟨[.builtin "object.__class__",.ref a,.ref C],[]⟩) R ⟨h,g,d,t,os⟩:=by
 have hT5:(⟨h,g,d,t,os⟩:Shared).TypeIs (.builtin "object.__class__") "getset_descriptor":=F.typeOf_object_class
 have L1:=W.looks_mroIn (M:=model prog w) X F0.ob
 have hown:(".".intercalate ("object.__class__".cutAt '.').dropLast)="object":=F.owner_object_class
 refine codeAny_call_builtin F.slot_gs_get.plain F.entry_gs_get (F.slot_gs_get.check _ _ _ _ _ _ _ _ hT5 (F.args_gs_get _ _ _) ?_)
 repeat (any_goals (first|assumption|(with_reducible refine wpAny_loadPart_at hx ?_;rw[hc])|(rw[hown];refine L1.at ?_)|wp_step))
 refine⟨Code.quiet_builtin _ (by decide +kernel),codeAny_builtin F.entry_object_class ?_⟩
 repeat (any_goals (first|assumption|(with_reducible refine wpAny_loadPart_at hx ?_;rw[hc])|wp_step))
theorem o5 {tk:Tok}{Q:Fin->Shared->Prop}(X:K.In h) (F0:ExcI K C) (hx:h.get? a=some o) (hc:o.cls=.ref C) (hq:Q (.done (.ret (.ref C))) ⟨h,g,d,t,os⟩) :
  wpAny (model prog w) A (Builtin.«object.__getattribute__» ⟨[.ref a,.str "__class__" tk],[]⟩) Q E ⟨h,g,d,t,os⟩:=by
 have hT5:(⟨h,g,d,t,os⟩:Shared).TypeIs (.builtin "object.__class__") "getset_descriptor":=F.typeOf_object_class
 have L1:=W.looks_findIn (M:=model prog w) X F0.cls
 have f5:=F.typeOf_object_class
 have f6:=F.slot_gs_get.lookup
 have f7:=F.slot_gs_set.lookup
 repeat (any_goals (first|assumption|(with_reducible refine wpAny_loadPart_at hx ?_;rw[hc])|(with_reducible refine L1.at ?_)|wp_step))
 refine tF X F0 hx hc ?_
 repeat (any_goals (first|assumption|wp_step))
theorem o6 {M:Model}{nameV:Value}{Q:Unit->Shared->Prop}(X:K.In h) (F0:ExcI K C) (hx:h.get? a=some o) (hc:o.cls=.ref C) (hq:Q () ⟨h,g,d,t,os⟩) :
  wpAny M A (checkBuiltinCall "BaseException.__getattribute__" ⟨[.ref a,nameV],[]⟩) Q E ⟨h,g,d,t,os⟩:=by
 have L1:=W.looks_mroIn (M:=M) X F0.be
 have hk:builtinKind "BaseException.__getattribute__"=some .slot:=by decide +kernel
 have hsp:splitId "BaseException.__getattribute__"=some ("BaseException","__getattribute__"):=by decide +kernel
 have hargs:=F.args_bexc_ga (.ref a) nameV
 simp only[checkBuiltinCall,hk,hsp]
 refine wpAny_bind ?_
 unfold isInstance
 repeat (first|(with_reducible refine wpAny_loadPart_at hx ?_;rw[hc])|(with_reducible refine L1.at ?_)|wp_step)
 exact hq
theorem uW {tk:Tok}{Q:Value->Shared->Prop}(X:K.In h) (F0:ExcI K C) (hx:h.get? a=some o) (hc:o.cls=.ref C) (hq:Q (.ref C) ⟨h,g,d,t,os⟩) :
  wpAny (model prog w) A (getAttrBy (.ref a) (.str "__class__" tk) false) Q E ⟨h,g,d,t,os⟩:=by
 have FB:Slot "ValueError" "__getattribute__" "BaseException.__getattribute__":=PySem.F.attr_ValueError.ga
 have f3:=FB.bind (.ref a)
 have L1:=W.looks_findIn (M:=model prog w) X F0.ga
 have L2:=W.looks_findIn (M:=model prog w) X F0.gt
 have hx2:(Value.builtin "BaseException.__getattribute__"==Value.builtin "object.__getattribute__")=false:=by decide +kernel
 have hx1:(onTheHeap (Value.ref C)&&Value.builtin "BaseException.__getattribute__"==Value.builtin "object.__getattribute__")=false:=by rw[hx2];exact Bool.and_false _
 repeat (any_goals (first|assumption|(with_reducible refine wpAny_loadPart_at hx ?_;rw[hc])|(with_reducible refine L1.at ?_)|(with_reducible refine L2.at ?_)|wp_step))
 refine codeAny_call_builtin FB.plain F.entry_bexc_ga (o6 X F0 hx hc (o5 X F0 hx hc ?_))
 repeat (any_goals (first|assumption|wp_step))
theorem rc {Q:Option Value->Shared->Prop}(X:K.In h) (F0:ExcI K C) (hx:h.get? a=some o) (hc:o.cls=.ref C) (hq:Q (some (.ref C)) ⟨h,g,d,t+1,os⟩) :
  wpAny (model prog w) A (getAttr? (.ref a) "__class__") Q E ⟨h,g,d,t,os⟩:=by
 unfold getAttr? getAttrBy?
 repeat (any_goals (first|assumption|with_reducible apply uW X F0 hx hc|wp_step))
end
theorem wK {K:W.Frag}{a C:Addr}(F0:ExcI K C):W.KitX K (.ref a) (.ref C) (fun h=>∃oe,h.get? a=some oe∧oe.cls=.ref C) where
 ty:=fun M h _ ⟨oe,e,c⟩=>c▸(W.Looks.ld e).andThen .now
 it:=fun M h X _=>mZ X F0.cl
 ne:=fun h tp dd its n sl X htp=>by
  refine Bool.eq_false_iff.mpr fun q=>?_
  have e:C=tp:=Value.ref.inj (beq_iff_eq.mp q)
  subst e
  have hc:=F0.cl
  unfold W.isClsIn W.clsIn at hc
  split at hc
  ·rename_i c' d' cd' sl' lk
   have z:=(X _ _ lk).symm.trans htp
   cases z
  ·cases hc
 ca:=fun {prog w A E Q s} X ⟨oe,e,c⟩ k=>by
  obtain⟨h,g,d,t,os⟩:=s
  exact rc X F0 e c k
inductive TyX (K:W.Frag) (H:Hp):V->Value->Prop where
 | of {x:V}{t:Value}(h:TyOf K H x t):TyX K H x t
 | tup {a:Addr}{xs:List V}(h:SqT K H a xs):TyX K H (.ref a) (.type "tuple")
 | lst {a:Addr}{xs:List V}(h:SqL K H a xs):TyX K H (.ref a) (.type "list")
 | exc {a C:Addr}(h:H a=some (iC a (.ref C))) (F0:ExcI K C):TyX K H (.ref a) (.ref C)
def EH:V->Value->Prop
 | .ty n,c=>c=.type n
 | .ref C,c=>c=.ref C
 | _,_=>False
theorem bQ {X:Cx}:cS X (.builtin "isinstance") (fun xs H Q=>∃x cv t c b,xs=[x,cv]∧EH cv c∧TyX X.K H x t∧W.kitOne X.K t c=some b∧Q (.bl b) H):=by
 intro aa s σ H xs us Q I r h
 obtain⟨x,cv,t,c,b,rfl,hcv,ty,e,q⟩:=h
 obtain⟨u,v,rfl,ru,rv⟩:=r.two
 have hv:v=c:=by
  cases cv with
  | ty n=>exact(show v=_ from rv).trans (show c=_ from hcv).symm
  | ref C=>exact(show v=_ from rv).trans (show c=_ from hcv).symm
  | _=>exact False.elim hcv
 subst hv
 have fin:∀tk,EP X aa σ Q (.bool b) { s with toks:=tk }:=fun tk=>⟨.bl b,H,I.tok tk,rfl,q⟩
 cases ty with
 | of ty=>exact uL I ru ty e fin
 | @tup a xs ht=>
  cases (show u=Value.ref a from ru)
  obtain⟨its,_,p,_⟩:=I.tuple ht
  obtain⟨o,h1,h2,_⟩:=p
  exact W.kia_one W.kitx_tuple I.kIn ⟨o,h1,h2⟩ e (fun z=>nomatch z) fin
 | @lst a xs ht=>
  cases (show u=Value.ref a from ru)
  obtain⟨its,_,p,_⟩:=I.list ht
  obtain⟨o,h1,h2,_⟩:=p.isList
  exact W.kia_one W.kitx_list I.kIn ⟨o,h1,h2⟩ e (fun z=>nomatch z) fin
 | @exc a C ha F0=>
  cases (show u=Value.ref a from ru)
  obtain⟨⟨oe,vs,h1,h2,_⟩,_⟩:=(show bc X.prog X.w H s.heap a (iC a (.ref C)) from I.hok a _ ha)
  exact W.kia_one (wK F0) I.kIn ⟨oe,h1,h2⟩ e (fun z=>nomatch z) fin
theorem Ax {K:W.Frag}:W.kitOne K (.type "int") (.type "int")=some true:=rfl
theorem Ay {K:W.Frag}:W.kitOne K (.type "int") (.type "bool")=some false:=by kernel_rfl
theorem ly {K:W.Frag}:W.kitOne K (.type "tuple") (.type "tuple")=some true:=rfl
theorem GU {K:W.Frag}:W.kitOne K (.type "bool") (.type "bool")=some true:=rfl
theorem Az {K:W.Frag}:W.kitOne K (.type "list") (.type "list")=some true:=rfl
structure ClsI (K:W.Frag) (C:Addr):Prop where
 cl:W.isClsIn K C=true
 ty:W.typeIn K (.ref C)=some (.type "type")
theorem yV {K:W.Frag}{C D:Addr}{b:Bool}(c:ClsI K D) (hm:W.mroIn K C (.ref D)=some b):W.kitOne K (.ref C) (.ref D)=some (if C=D then true else b):=by
 unfold W.kitOne
 by_cases z:C=D
 ·subst z
  rw[if_pos (by simp),if_pos rfl]
 ·rw[if_neg (by simpa using z),if_neg z]
  unfold W.kitCls
  have h1:(W.clsIn K D).isSome=true:=c.cl
  have h2:(W.typeIn K (.ref D)==some (.type "type"))=true:=by rw[c.ty];rfl
  simp only[h1,h2,Bool.and_self,if_true]
  exact hm
theorem uX {K:W.Frag}{C:Addr}{b:Bool}(hm:W.mroIn K C (.type "ValueError")=some b):W.kitOne K (.ref C) (.type "ValueError")=some b:=by
 unfold W.kitOne
 rw[if_neg (by simp)]
 unfold W.kitCls
 have h1:W.kitMeta "ValueError"=true:=by decide +kernel
 simp only[h1,if_true]
 exact hm
end L2
namespace L2
open PySem PySem.Spec PyProof.Rows
section
variable {prog:Program}{w:World}{A:Around}{E:Value->Shared->Prop}{s:Shared}{q p:Addr}{k:Nat}{its:Array Value}{Q:Value->Shared->Prop}
end
section
variable {X:Cx}
end
end L2
namespace Mx
def aE (n:Nat):List Int:=(List.range n).map fun(i:Nat)=>(i:Int)
theorem aQ (n:Nat):(aE n).length=n:=by simp[aE]
theorem bD {n:Nat}{x:Int}:x∈aE n↔0≤x∧x<n:=by
 simp only[aE,List.mem_map,List.mem_range]
 constructor
 ·rintro⟨i,hi,rfl⟩;omega
 ·rintro⟨h0,h1⟩;exact⟨x.toNat,by omega,by omega⟩
theorem iD (n:Nat):(aE n).Nodup:=by
 unfold aE List.Nodup
 rw[List.pairwise_map]
 exact(List.nodup_range (n:=n)).imp (fun h e=>h (by omega))
theorem ku (n:Nat):(aE n).Pairwise (·≤·):=by
 unfold aE
 rw[List.pairwise_map]
 exact(List.pairwise_lt_range (n:=n)).imp (fun h=>by omega)
def cL (l:List Int):List Int:=l.mergeSort fun a b=>decide (a≤b)
theorem fZ (l:List Int):(cL l).Perm l:=List.mergeSort_perm l _
theorem o7 (l:List Int):(cL l).Pairwise (·≤·):=by
 have h:=List.pairwise_mergeSort (le:=fun a b:Int=>decide (a≤b)) (by intro a b c;simp;omega) (by intro a b;simp;omega) l
 exact h.imp (fun h=>by simpa using h)
theorem iE {l ys:List Int}(p:ys.Perm l) (s:ys.Pairwise (·≤·)):ys=cL l:=
 List.Perm.eq_of_pairwise (fun a b _ _ h1 h2=>Int.le_antisymm h1 h2) s (o7 l) (p.trans (fZ l).symm)
theorem gr (l:List Int):(cL l).length=l.length:=(fZ l).length_eq
def Ord (l:List Int):Prop:=cL l=aE l.length
theorem Ord.perm {l:List Int}(h:Ord l):l.Perm (aE l.length):=by
 have p:=(fZ l).symm
 rw[h] at p
 exact p
theorem Ord.mem {l:List Int}(h:Ord l) {x:Int}(hx:x∈l):0≤x∧x<l.length:=bD.mp (h.perm.mem_iff.mp hx)
end Mx
namespace L2
open PySem PySem.Spec PyProof.Rows
structure Df (P:Program) (w:World) (K:W.Frag) (mg:Str->Option Value) (base:Heap) (CX:CXT) (k:Nat) (x:Str) (ps:List Str) (sp:Sp):Prop where
 ex:∃f fd,FnOk P w K mg base CX k f fd ps sp∧cD K fd ps []∧W.keepIn K (.ref f)=true∧mg x=some (.ref f)
def AA (sp:Sp) (E:St->XK) (t:TA):TE:=fun σ H Q=>t σ H fun vs H1=>sp vs H1 Q (E σ)
theorem aS {X:Cx}{CX:CXT}{k:Nat}{x:Str}{ps:List Str}{sp:Sp}{E:St->XK}{p pos:Pos}{e:Expr}{es:List Expr}{t:TA}(D:Df X.prog X.w X.K X.mg X.base CX k x ps sp) (hr:Room k X.A) (hg:Gl X x) (hx:cI CX X E) (ha:PA X (e::es) t)
  (hdb:(x==("__debug__":Str))=false:=by decide) (he:starEach (e::es) X.env=(false,eval e X.env)::starEach es X.env:=by rfl) (hpl:(backTo pos (starEach es X.env)).any (·.1)=false:=by rfl) :
  PE X (.Call (.Name x p) (e::es) [] pos) (AA sp E t):=by
 obtain⟨f,fd,F,b,kp,m⟩:=D.ex
 intro aa s σ H Q I h
 refine wD (dvs:=[]) (ds:=[]) F hr hg m kp b .nil hx ha hdb he hpl aa s σ H Q I ?_
 have e1:(fun(vs:List V) H1=>sp (vs++[]) H1 Q (E σ))=fun vs H1=>sp vs H1 Q (E σ):=by funext vs H1;rw[List.append_nil]
 show t σ H (fun vs H1=>sp (vs++[]) H1 Q (E σ))
 rw[e1]
 exact h
theorem lA {P:Program}{w:World}{X:Cx}:cI (CX1 P w) X (fun _ _ _ _=>False):=fun _ _ _ _ _ _ _ ⟨_,_,_,_,_,_,_,_,_,z⟩=>z.elim
theorem cY:bootBuiltins "isinstance"=some (.builtin "isinstance"):=by decide +kernel
theorem Dy:bootBuiltins "int"=some (.type "int"):=by decide +kernel
theorem AB:bootBuiltins "bool"=some (.type "bool"):=by decide +kernel
theorem eV:bootBuiltins "tuple"=some (.type "tuple"):=by decide +kernel
theorem gu:bootBuiltins "list"=some (.type "list"):=by decide +kernel
theorem jR:bootBuiltins "range"=some (.type "range"):=by decide +kernel
theorem gv:bootBuiltins "sorted"=some (.builtin "sorted"):=by decide +kernel
theorem xX:bootBuiltins "all"=some (.builtin "all"):=by decide +kernel
theorem cp:bootBuiltins "len"=some (.builtin "len"):=by decide +kernel
theorem au.seqT {K:W.Frag}{H H':Hp}{a:Addr}{xs:List V}(e:au H H') (h:SqT K H a xs):SqT K H' a xs:=by
 rcases h with(h|⟨o,h⟩)|h
 ·exact .inl (.inl (e _ _ h))
 ·exact .inl (.inr ⟨o,e _ _ h⟩)
 ·exact .inr h
theorem af {H:Hp}{p:Addr}(h:H p=none) (o:HO):au H (upd H p o):=fun b u q=>by rw[aq (ar q h)];exact q
theorem SqL.up {K:W.Frag}{H:Hp}{p:Addr}{xs:List V}:SqL K (upd H p (.lst xs)) p xs:=.inl (.inl ag)
theorem SqT.up {K:W.Frag}{H:Hp}{p:Addr}{xs:List V}:SqT K (upd H p (.tup xs)) p xs:=.inl (.inl ag)
end L2
namespace Ord
open PySem L2 Mx
def top (i:Nat):Stmt:=PySem.Challenge.pw_ordernest_k03_no_books.main.body.getD i (.Pass ⟨0,0,0,0⟩)
abbrev o8:Stmt:=top 11
abbrev o9:Stmt:=top 12
abbrev pe:Stmt:=top 13
abbrev ou:Stmt:=top 14
structure Txt (K:W.Frag) (mg:Str->Option Value) (CO:Addr):Prop where
 bo:OwnX K mg "BadOrder" CO
 most:∃t,mg "MOST_THINGS"=some (.int 8 t)
 isi:mg "isinstance"=none
 int:mg "int"=none
 bool:mg "bool"=none
 tuple:mg "tuple"=none
 list:mg "list"=none
 range:mg "range"=none
 sorted:mg "sorted"=none
 all:mg "all"=none
 len:mg "len"=none
 enum:mg "enumerate"=none
section
variable {P:Program}{w:World}{K:W.Frag}{mg:Str->Option Value}{base:Heap}{CO:Addr}
def hV:Sp:=fun vs H Q _=>∃i:Int,vs=[.int i]∧Q (.bl true) H
theorem yW:FnScope ["value"] ["value"] (ap o8):=⟨rfl,rfl,rfl,by decide +kernel,rfl,by decide +kernel,by decide +kernel⟩
theorem wL {f:Addr}{fd:FuncData}(F:Fun K "is_whole" "is_whole" o8 f fd) (T:Txt K mg CO):FnOk P w K mg base CX0 1 f fd ["value"] hV:=by
 refine F.ok yW (fun vs H Q E h=>?_) (fun cdv A outer s H vs Q E hr h=>?_)
 ·obtain⟨i,rfl,_⟩:=h
  rfl
 obtain⟨i,rfl,q⟩:=h
 refine⟨_,am (aH (gU (aB bQ rfl T.isi cY (ac (pv 0) (ac (eT (v:=.ty "int") rfl T.int Dy rfl) ae)))
  (lg (Ae (aB bQ rfl T.isi cY (ac (pv 0) (ac (eT (v:=.ty "bool") rfl T.bool AB rfl) ae))))))),?_⟩
 refine⟨_,rfl,_,_,_,_,_,rfl,rfl,.of (.int i),Ax,_,rfl,aJ ?_⟩
 exact⟨_,rfl,_,_,_,_,_,rfl,rfl,.of (.int i),Ay,_,rfl,q⟩
def my:Sp:=fun vs H Q _=>∃i:Int,vs=[.int i]∧Q (.bl (decide (1≤i∧i≤8))) H
theorem yX:FnScope ["many"] ["many"] (ap o9):=⟨rfl,rfl,rfl,by decide +kernel,rfl,by decide +kernel,by decide +kernel⟩
theorem wM {f:Addr}{fd:FuncData}(F:Fun K "is_count" "is_count" o9 f fd) (T:Txt K mg CO) (W:Df P w K mg base CX0 1 "is_whole" ["value"] hV):FnOk P w K mg base CX0 2 f fd ["many"] my:=by
 refine F.ok yX (fun vs H Q E h=>?_) (fun cdv A outer s H vs Q E hr h=>?_)
 ·obtain⟨i,rfl,_⟩:=h
  rfl
 obtain⟨i,rfl,q⟩:=h
 obtain⟨t8,m8⟩:=T.most
 refine⟨_,am (aH (gU (aS W hr rfl (bg (E:=fun _ _ _ _=>False)) (ac (pv 0) ae)) (lg (wv iy iy ak (pv 0) (bH (v:=.int 8) rfl m8 ⟨t8,rfl⟩))))),?_⟩
 refine⟨_,rfl,i,rfl,_,rfl,aJ ?_⟩
 refine⟨_,rfl,1,i,rfl,rfl,_,rfl,?_⟩
 by_cases h1:1≤i
 ·rw[decide_eq_true h1]
  refine aJ ⟨i,8,rfl,rfl,?_⟩
  have e:decide (i≤8)=decide (1≤i∧i≤8):=by simp[h1]
  show Q (V.bl (decide (i≤8))) H
  rw[e]
  exact q
 ·rw[decide_eq_false h1]
  refine aM ?_
  have e:decide (1≤i∧i≤8)=false:=by simp[h1]
  rw[e] at q
  exact q
def Fit (i:Int):Prop:=i.natAbs.log2<1900
theorem eW {i:Int}(h1:-(2 ^ 64)<i) (h2:i<2 ^ 64):Fit i:=by
 have:i.natAbs<2 ^ 64:=by omega
 have h3:i.natAbs.log2<65:=by
  by_cases z:i.natAbs=0
  ·rw[z];decide
  ·have:=(Nat.log2_lt z (k:=64)).mpr this
   omega
 unfold Fit
 omega
def mz (CO:Addr):Sp:=fun vs H Q E=>∃i:Int,vs=[.int i]∧Fit i∧(if 1≤i∧i≤8 then Q .non H else E (.ref CO) none H)
theorem yY:FnScope ["many"] ["many"] (ap pe):=⟨rfl,rfl,rfl,by decide +kernel,rfl,by decide +kernel,by decide +kernel⟩
theorem wN {f:Addr}{fd:FuncData}(F:Fun K "look_count" "look_count" pe f fd) (T:Txt K mg CO) (W:Df P w K mg base CX0 2 "is_count" ["many"] my):FnOk P w K mg base (CX1 P w) 3 f fd ["many"] (mz CO):=by
 refine F.okX yY (fun vs H Q E h=>?_) (fun X cdv A outer s H vs Q E hX hp hra hr h=>?_)
 ·obtain⟨i,rfl,_⟩:=h
  rfl
 obtain⟨i,rfl,fit,q⟩:=h
 obtain⟨t8,m8⟩:=T.most
 subst hX
 refine⟨_,am (aK (cq (dg (aS W hr rfl (bg (E:=fun _ _ _ _=>False)) (ac (pv 0) ae))))
  (am (bV rfl rfl T.bo hra (ac (fz (bw (yT (pv 0)) (bw (cJ (k:=100) (by decide)) (bw (hJ (bH (v:=.int 8) rfl m8 ⟨t8,rfl⟩)) gq))) (by decide)) ae))) ax),?_⟩
 refine⟨_,rfl,i,rfl,_,rfl,?_⟩
 by_cases c:1≤i∧i≤8
 ·rw[decide_eq_true c]
  refine aM ?_
  rw[if_pos c] at q
  exact q
 ·rw[decide_eq_false c]
  refine aJ ?_
  rw[if_neg c] at q
  exact⟨⟨⟨_,rfl,rfl,i,rfl,fit⟩,trivial,⟨rfl,8,rfl,by decide⟩,trivial⟩,fun x=>⟨by show 1≤sizeLine;decide,q⟩⟩
end
end Ord
namespace L2
open PySem PySem.Spec PyProof.Rows
theorem bX (ns:List Int):(ns.map V.int).all cz=true:=by simp[List.all_eq_true,cz]
theorem cM (n:Nat):e8 0 n=(Mx.aE n).map V.int:=by simp[e8,Mx.aE]
theorem mB {ns:List Int}{i:Nat}{x:V}(h:(ns.map V.int)[i]?=some x):∃z,x=.int z∧ns[i]?=some z:=by
 rw[List.getElem?_map] at h
 cases e:ns[i]? with
 | none=>rw[e] at h;cases h
 | some z=>rw[e] at h;exact⟨z,(Option.some.inj h).symm,rfl⟩
end L2
namespace Ord
open PySem L2 Mx
section
variable {P:Program}{w:World}{K:W.Frag}{mg:Str->Option Value}{base:Heap}{CO:Addr}
def mD (n:Int) (ns:List Int):Prop:=1≤n∧n≤8∧(ns.length:Int)=n∧Mx.Ord ns
structure Tp (K:W.Frag) (H:Hp) (a:Addr) (ns:List Int):Prop where
 sq:SqT K H a (ns.map V.int)
 len:ns.length≤60
 fit:∀x∈ns,Fit x
theorem Tp.same {H H':Hp}{a:Addr}{ns:List Int}(T:Tp K H a ns) (e:au H H'):Tp K H' a ns:=⟨e.seqT T.sq,T.len,T.fit⟩
def pf (K:W.Frag) (CO:Addr):Sp:=fun vs H Q E=>∃(n:Int) (a:Addr) (ns:List Int),vs=[.int n,.ref a]∧Fit n∧Tp K H a ns∧
 (mD n ns->∀H',au H H'->Q .non H')∧(¬mD n ns->∀H',au H H'->E (.ref CO) none H')
theorem uY:FnScope ["many","order"] ["many","order"] (ap ou):=⟨rfl,rfl,rfl,by decide +kernel,rfl,by decide +kernel,by decide +kernel⟩
theorem yZ {f:Addr}{fd:FuncData}(F:Fun K "look_order" "look_order" ou f fd) (T:Txt K mg CO) (WC:Df P w K mg base (CX1 P w) 3 "look_count" ["many"] (mz CO)) (WW:Df P w K mg base CX0 1 "is_whole" ["value"] hV) :
  FnOk P w K mg base (CX1 P w) 4 f fd ["many","order"] (pf K CO):=by
 refine F.okX uY (fun vs H Q E h=>?_) (fun X cdv A outer s H vs Q E hX hp hra hr h=>?_)
 ·obtain⟨n,a,ns,rfl,_⟩:=h
  rfl
 obtain⟨n,a,ns,rfl,fit,tp,qg,qb⟩:=h
 subst hX
 refine⟨_,ai (br (aS WC hr rfl hp (ac (pv 0) ae)))
  (ai (aK (PW.pt (fW (cq (dg (aB bQ rfl T.isi cY (ac (pv 1) (ac (eT (v:=.ty "tuple") rfl T.tuple eV rfl) ae)))))
    (eZ (aD gB (aB aR rfl T.len cp (ac (pv 1) ae)) (pv 0) (aG _)))))
   (am (bV rfl rfl T.bo hra (ac (fz (bw (mx hr (pv 1)) (bw (cJ (k:=100) (by decide)) (bw (hJ (pv 0)) (bw (cJ (k:=100) (by decide)) gq)))) (by decide)) ae))) ax)
  (ai (aK (cq (dg (aB (o4 rfl) rfl T.all xX (ac (dM rfl (show CScope (ap ou) ["many","order"] _ _ from by constructor <;> decide +kernel) (gW (pv 1)) (fun _ _ _ _ _ _=>fu)
    (fun cl C s₂ H₂ fp aa=>aS WW (hr.mono (by decide)) rfl (bg (E:=fun _ _ _ _=>False)) (ac (pv 0) ae)) uY.nd) ae))))
   (am (bV rfl rfl T.bo hra (ac (fz (bw (mx hr (pv 1)) (bw (cJ (k:=100) (by decide)) gq)) (by decide)) ae))) ax)
  (am (aK (aD (o0 hr.units0) (aB jk rfl T.sorted gv (ac (pv 1) ae))
    (bz (eI rfl) rfl T.list gu (ac (bz gC rfl T.range jR (ac (pv 0) ae)) ae)) (aG _))
   (am (bV rfl rfl T.bo hra (ac (fz (bw (mx hr (pv 1)) (bw (cJ (k:=100) (by decide)) (bw (hJ (pv 0)) (bw (cJ (k:=100) (by decide)) gq)))) (by decide)) ae))) ax)))),?_⟩
 refine⟨_,rfl,n,rfl,fit,?_⟩
 by_cases c:1≤n∧n≤8
 case neg=>
  rw[if_neg c]
  exact qb (fun g=>c ⟨g.1,g.2.1⟩) H (au.refl H)
 rw[if_pos c]
 have len60:=tp.len
 have hl:(ns.map V.int).length=ns.length:=List.length_map _
 refine⟨_,rfl,_,_,_,_,_,rfl,rfl,.tup tp.sq,ly,_,rfl,aM ?_⟩
 refine⟨_,rfl,a,_,rfl,.inr tp.sq,_,rfl,rfl,_,rfl,?_⟩
 have isT1:∀H',au H H'->isT K (sK 1) [some (.int n),some (.ref a)] H':=fun H' e=>⟨_,rfl,rfl,a,ns,rfl,e.seqT tp.sq,by omega,tp.fit⟩
 by_cases c2:(ns.length:Int)=n
 case neg=>
  have e1:decide (V.int ((ns.map V.int).length:Nat)=V.int n)=false:=by
   rw[hl]
   exact decide_eq_false fun z=>c2 (V.int.inj z)
  rw[e1]
  refine aJ ?_
  exact⟨⟨isT1 H (au.refl H),trivial,⟨_,rfl,rfl,n,rfl,fit⟩,trivial,trivial⟩,fun x=>⟨by show 1≤sizeLine;decide,qb (fun g=>c2 g.2.2.1) H (au.refl H)⟩⟩
 have e1:decide (V.int ((ns.map V.int).length:Nat)=V.int n)=true:=by
  rw[hl]
  exact decide_eq_true (congrArg V.int c2)
 rw[e1]
 refine aM ?_
 refine⟨_,rfl,a,rfl,⟨_,tp.sq⟩,oZ (K:=K) (a:=a) (xs:=ns.map V.int) (fun i ys H'=>H'=H∧ys=(List.replicate i true).map V.bl) ⟨rfl,rfl⟩ ?_ (by rw[hl,sizeLine_eq];omega) ?_ ?_⟩
 ·rintro i ys H' hi ⟨rfl,rfl⟩
  exact⟨tp.sq,by simp⟩
 ·rintro i x ys H' hx ⟨rfl,rfl⟩
  obtain⟨z,rfl,_⟩:=mB hx
  refine goT ?_
  refine aJ ?_
  refine⟨_,rfl,z,rfl,rfl,?_⟩
  simp[List.replicate_succ',List.map_append]
 rintro ys H' p ⟨rfl,rfl⟩ hp0
 refine⟨p,List.replicate (ns.map V.int).length true,rfl,SqL.up,_,rfl,?_⟩
 have e2:(List.replicate (ns.map V.int).length true).all id=true:=by simp[List.all_eq_true]
 rw[e2]
 refine aM ?_
 have s1:au H' (upd H' p (.lst ((List.replicate (ns.map V.int).length true).map V.bl))):=af hp0 _
 refine⟨_,rfl,a,ns,rfl,s1.seqT tp.sq,by omega,fun l ns' hl0 hperm hsort=>?_⟩
 have s2:=s1.trans (af hl0 (.lst (ns'.map V.int)))
 refine⟨_,rfl,n,rfl,fun r hr0=>⟨r,0,n,rfl,ag,by decide,by decide,by omega,by omega,by omega,fun l2 hl2=>?_⟩⟩
 have s3:=s2.trans (af hr0 (.rng 0 n))
 have s4:=s3.trans (af hl2 (.lst (e8 0 (n-0).toNat)))
 have n1:l≠l2:=ar (by rw[aq (ar ag hr0)];exact ag) hl2
 have n2:l≠r:=ar ag hr0
 refine⟨l,l2,ns'.map V.int,_,rfl,rfl,.inl (.inl (by rw[aq n1,aq n2];exact ag)),SqL.up,bX _,by rw[cM];exact bX _,_,rfl,?_⟩
 have e3:ns'=Mx.cL ns:=Mx.iE hperm hsort
 have e4:(n-0).toNat=ns.length:=by omega
 rw[e4,cM,gD,e3]
 by_cases g:Mx.cL ns=Mx.aE ns.length
 ·rw[decide_eq_true g]
  refine aM ?_
  refine qg ⟨c.1,c.2,c2,g⟩ _ ?_
  rw[←e3,←cM,←e4]
  exact s4
 ·rw[decide_eq_false g]
  refine aJ ?_
  have s4':=s4
  rw[e4,cM,e3] at s4'
  exact⟨⟨isT1 _ s4',trivial,⟨_,rfl,rfl,n,rfl,fit⟩,trivial,trivial⟩,fun x=>⟨by show 1≤sizeLine;decide,qb (fun gg=>g gg.2.2.2) _ s4'⟩⟩
end
end Ord
namespace L2
open PySem PySem.Spec PyProof.Rows
theorem wO {x y:V}{u:Value}(h1:aF x u) (h2:aF y u):x=y:=by
 have q:az [x] [u]:=.cons h1 .nil
 have q':az [y] [u]:=.cons h2 .nil
 exact(List.cons.inj (q.inj q')).1
theorem cw {α β:Type}{F:α->β->Prop}:∀{l₁:List α}{l₂:List β}{i:Nat}{a:α},Paired F l₁ l₂->l₁[i]?=some a->∃b,l₂[i]?=some b∧F a b
 | _,_,_,_,.nil,e=>by simp at e
 | _,_,0,_,.cons h _,e=>by simp at e;subst e;exact⟨_,rfl,h⟩
 | _,_,i+1,a,.cons _ t,e=>by
  obtain⟨b,h1,h2⟩:=cw (i:=i) (a:=a) t (by simpa using e)
  exact⟨b,by simpa using h1,h2⟩
theorem dN {α β:Type}{F:α->β->Prop}:∀{l₁:List α}{l₂:List β}{i:Nat}{b:β},Paired F l₁ l₂->l₂[i]?=some b->∃a,l₁[i]?=some a∧F a b
 | _,_,_,_,.nil,e=>by simp at e
 | _,_,0,_,.cons h _,e=>by simp at e;subst e;exact⟨_,rfl,h⟩
 | _,_,i+1,b,.cons _ t,e=>by
  obtain⟨a,h1,h2⟩:=dN (i:=i) (b:=b) t (by simpa using e)
  exact⟨a,by simpa using h1,h2⟩
theorem ay {α β:Type}{F G:α->β->Prop}(f:∀a b,F a b->G a b):∀{l₁:List α}{l₂:List β},Paired F l₁ l₂->Paired G l₁ l₂
 | _,_,.nil=>.nil
 | _,_,.cons h t=>.cons (f _ _ h) (ay f t)
theorem bL {α β:Type}{F:α->β->Prop}:∀{l₁ m₁:List α}{l₂ m₂:List β},Paired F l₁ l₂->Paired F m₁ m₂->Paired F (l₁++m₁) (l₂++m₂)
 | _,_,_,_,.nil,s=>s
 | _,_,_,_,.cons h t,s=>.cons h (bL t s)
theorem fI {α β:Type}{F:α->β->Prop}:∀{l₁:List α}{l₂:List β}(n:Nat),Paired F l₁ l₂->Paired F (l₁.take n) (l₂.take n)
 | _,_,0,_=>.nil
 | _,_,_+1,.nil=>.nil
 | _,_,n+1,.cons h t=>.cons h (fI n t)
theorem fJ {α β:Type}{F:α->β->Prop}:∀{l₁:List α}{l₂:List β}(n:Nat),Paired F l₁ l₂->Paired F (l₁.drop n) (l₂.drop n)
 | _,_,0,h=>h
 | _,_,_+1,.nil=>.nil
 | _,_,n+1,.cons _ t=>fJ n t
theorem pfn {α β:Type}{F:α->β->Prop}(f:∀a b c,F a b->F a c->b=c):∀{l:List α}{m n:List β},Paired F l m->Paired F l n->m=n
 | _,_,_,.nil,.nil=>rfl
 | _,_,_,.cons h t,.cons h' t'=>by rw[f _ _ _ h h',pfn f t t']
theorem jS {α:Type} [DecidableEq α] {as bs:List α}(hl:as.length=bs.length):(List.range as.length).all (fun j=>decide (as[j]?=bs[j]?))=decide (as=bs):=by
 by_cases h:as=bs
 ·subst h
  rw[decide_eq_true rfl,List.all_eq_true]
  intro j _
  exact decide_eq_true rfl
 ·rw[decide_eq_false h]
  cases e:(List.range as.length).all (fun j=>decide (as[j]?=bs[j]?)) with
  | false=>rfl
  | true=>
   rw[List.all_eq_true] at e
   refine absurd (List.ext_getElem? fun j=>?_) h
   by_cases hj:j<as.length
   ·exact of_decide_eq_true (e j (List.mem_range.mpr hj))
   ·rw[List.getElem?_eq_none (by omega),List.getElem?_eq_none (by omega)]
structure Dk (α:Type) [DecidableEq α] where
 rep:W.Frag->Hp->V->α->Prop
 dep:Nat
 mono:∀{K:W.Frag}{H H':Hp}{x:V}{a:α},au H H'->rep K H x a->rep K H' x a
 fn:∀{X:Cx}{aa:List (Addr×Obj)}{σ:St}{H:Hp}{s:Shared}{x:V}{a b:α},Inv X aa σ H s->rep X.K H x a->rep X.K H x b->a=b
 eqAt:∀{X:Cx}{aa:List (Addr×Obj)}{σ:St}{H:Hp}{s:Shared}{A:Around}{x y:V}{a b:α}{u v:Value},Inv X aa σ H s->A.units+dep<cLine->rep X.K H x a->rep X.K H y b->aF x u->aF y v->SeqAt.EqAt A s u v (decide (a=b))
 rcAt:∀{X:Cx}{aa:List (Addr×Obj)}{σ:St}{H:Hp}{s:Shared}{A:Around}{x y:V}{a b:α}{u v:Value},Inv X aa σ H s->A.units+dep<cLine->rep X.K H x a->rep X.K H y b->aF x u->aF y v->SeqAt.RcAt A s u v (decide (a=b))
 neAt:∀{X:Cx}{aa:List (Addr×Obj)}{σ:St}{H:Hp}{s:Shared}{A:Around}{x y:V}{a b:α}{u v:Value},Inv X aa σ H s->A.units+dep<cLine->rep X.K H x a->rep X.K H y b->aF x u->aF y v->SeqAt.RcNeAt A s u v (!decide (a=b))
theorem hW {i j:Int}:(i==j)=decide (i=j):=by
 by_cases h:i=j
 ·subst h;simp
 ·rw[decide_eq_false h];simpa using h
def tG:Dk Int where
 rep:=fun _ _ x a=>x=.int a
 dep:=0
 mono:=fun _ h=>h
 fn:=fun _ h1 h2=>V.int.inj (h1.symm.trans h2)
 eqAt:=fun _ _ h1 h2 r1 r2=>by
  subst h1 h2
  obtain⟨t,rfl⟩:=r1
  obtain⟨t',rfl⟩:=r2
  rw[←hW]
  exact SeqAt.EqAt.int_int _ _ _ _
 rcAt:=fun _ _ h1 h2 r1 r2=>by
  subst h1 h2
  obtain⟨t,rfl⟩:=r1
  obtain⟨t',rfl⟩:=r2
  rw[←hW]
  exact SeqAt.RcAt.int_int _ _ _ _
 neAt:=fun _ _ h1 h2 r1 r2=>by
  subst h1 h2
  obtain⟨t,rfl⟩:=r1
  obtain⟨t',rfl⟩:=r2
  rw[←hW]
  exact SeqAt.RcNeAt.int_int _ _ _ _
section
variable {α:Type} [DecidableEq α]
theorem fA (k:Dk α) {X:Cx}{aa:List (Addr×Obj)}{σ:St}{H:Hp}{s:Shared}{A:Around}{xs ys:List V}{as bs:List α}{us vs:List Value}(I:Inv X aa σ H s) (hu:A.units+k.dep<cLine)
  (p:Paired (k.rep X.K H) xs as) (q:Paired (k.rep X.K H) ys bs) (r1:az xs us) (r2:az ys vs) :
  ∀j (h1:j<us.toArray.size) (h2:j<vs.toArray.size),SeqAt.EqAt A s us.toArray[j] vs.toArray[j] (decide (as[j]?=bs[j]?)):=by
 intro j h1 h2
 have l1:=r1.length
 have l2:=r2.length
 have h1':j<us.length:=by simpa using h1
 have h2':j<vs.length:=by simpa using h2
 obtain⟨u,e1,q1⟩:=r1.get (i:=j) (x:=xs[j]'(by omega)) (by simp)
 obtain⟨v,e2,q2⟩:=r2.get (i:=j) (x:=ys[j]'(by omega)) (by simp)
 have e1':us.toArray[j]=u:=by
  have:=(List.getElem?_eq_some_iff.mp e1).2
  simpa using this
 have e2':vs.toArray[j]=v:=by
  have:=(List.getElem?_eq_some_iff.mp e2).2
  simpa using this
 obtain⟨a,ea,ra⟩:=cw (i:=j) (a:=xs[j]'(by omega)) p (by simp)
 obtain⟨b,eb,rb⟩:=cw (i:=j) (a:=ys[j]'(by omega)) q (by simp)
 rw[e1',e2',ea,eb]
 have e3:decide (some a=some b)=decide (a=b):=by
  by_cases h:a=b
  ·subst h;simp
  ·simp[h]
 rw[e3]
 exact k.eqAt I hu ra rb q1 q2
theorem hZ {as bs:List α}{n m:Nat}(hn:n=as.length) (hm:m=bs.length):((List.range (min n m)).all (fun j=>decide (as[j]?=bs[j]?))&&n==m)=decide (as=bs):=by
 subst hn hm
 by_cases h:as.length=bs.length
 ·rw[h,Nat.min_self,←h,jS h]
  simp[h]
 ·have:(as.length==bs.length)=false:=by simpa using h
  rw[this,Bool.and_false,decide_eq_false]
  rintro rfl
  exact h rfl
def AC (k:Dk α):Dk (List α) where
 rep:=fun K H x as=>∃p xs,x=.ref p∧SqT K H p xs∧Paired (k.rep K H) xs as
 dep:=k.dep+1
 mono:=fun s ⟨p,xs,e,q,r⟩=>⟨p,xs,e,by
  rcases q with(h|⟨o,h⟩)|h
  ·exact .inl (.inl (s _ _ h))
  ·exact .inl (.inr ⟨o,s _ _ h⟩)
  ·exact .inr h,ay (fun _ _ z=>k.mono s z) r⟩
 fn:=fun I ⟨p,xs,e,q,r⟩ ⟨p',xs',e',q',r'⟩=>by
  rw[e] at e'
  cases e'
  have:=I.tuple_inj q q'
  subst this
  exact pfn (F:=k.rep _ _) (fun _ _ _ h1 h2=>k.fn I h1 h2) r r'
 eqAt:=fun {X aa σ H s A x y a b u v} I hu ⟨p,xs,e,q,r⟩ ⟨p',xs',e',q',r'⟩ rx ry=>by
  subst e e'
  cases rx
  cases ry
  by_cases hp:p=p'
  ·subst hp
   have:=I.tuple_inj q q'
   subst this
   have:=pfn (F:=k.rep _ _) (fun _ _ _ h1 h2=>k.fn I h1 h2) r r'
   subst this
   rw[decide_eq_true rfl]
   exact SeqAt.EqAt.same _
  ·obtain⟨its,v1,t1,_⟩:=I.tuple q
   obtain⟨its',v2,t2,_⟩:=I.tuple q'
   refine SeqAt.EqAt.of_refs hp ?_
   have h:=SeqAt.RcAt.tuples (A:=A) (e:=fun j=>decide (a[j]?=b[j]?)) t1 t2 (by omega) (fA k I (by show A.units+1+k.dep<cLine;omega) r r' v1 v2)
   rw[hZ (by rw[List.size_toArray,←v1.length,r.length]) (by rw[List.size_toArray,←v2.length,r'.length])] at h
   exact h
 rcAt:=fun {X aa σ H s A x y a b u v} I hu ⟨p,xs,e,q,r⟩ ⟨p',xs',e',q',r'⟩ rx ry=>by
  subst e e'
  cases rx
  cases ry
  obtain⟨its,v1,t1,_⟩:=I.tuple q
  obtain⟨its',v2,t2,_⟩:=I.tuple q'
  have h:=SeqAt.RcAt.tuples (A:=A) (e:=fun j=>decide (a[j]?=b[j]?)) t1 t2 (by omega) (fA k I (by show A.units+1+k.dep<cLine;omega) r r' v1 v2)
  rw[hZ (by rw[List.size_toArray,←v1.length,r.length]) (by rw[List.size_toArray,←v2.length,r'.length])] at h
  exact h
 neAt:=fun {X aa σ H s A x y a b u v} I hu ⟨p,xs,e,q,r⟩ ⟨p',xs',e',q',r'⟩ rx ry=>by
  subst e e'
  cases rx
  cases ry
  obtain⟨its,v1,t1,_⟩:=I.tuple q
  obtain⟨its',v2,t2,_⟩:=I.tuple q'
  have h:=SeqAt.RcNeAt.tuples (A:=A) (e:=fun j=>decide (a[j]?=b[j]?)) t1 t2 (by omega) (fA k I (by show A.units+1+k.dep<cLine;omega) r r' v1 v2)
  rw[hZ (by rw[List.size_toArray,←v1.length,r.length]) (by rw[List.size_toArray,←v2.length,r'.length])] at h
  exact h
def e9 (k:Dk α):Dk (List α) where
 rep:=fun K H x as=>∃p xs,x=.ref p∧SqL K H p xs∧Paired (k.rep K H) xs as
 dep:=k.dep+1
 mono:=fun s ⟨p,xs,e,q,r⟩=>⟨p,xs,e,by
  rcases q with(h|⟨o,h⟩)|h
  ·exact .inl (.inl (s _ _ h))
  ·exact .inl (.inr ⟨o,s _ _ h⟩)
  ·exact .inr h,ay (fun _ _ z=>k.mono s z) r⟩
 fn:=fun I ⟨p,xs,e,q,r⟩ ⟨p',xs',e',q',r'⟩=>by
  rw[e] at e'
  cases e'
  have:=I.list_inj q q'
  subst this
  exact pfn (F:=k.rep _ _) (fun _ _ _ h1 h2=>k.fn I h1 h2) r r'
 eqAt:=fun {X aa σ H s A x y a b u v} I hu ⟨p,xs,e,q,r⟩ ⟨p',xs',e',q',r'⟩ rx ry=>by
  subst e e'
  cases rx
  cases ry
  by_cases hp:p=p'
  ·subst hp
   have:=I.list_inj q q'
   subst this
   have:=pfn (F:=k.rep _ _) (fun _ _ _ h1 h2=>k.fn I h1 h2) r r'
   subst this
   rw[decide_eq_true rfl]
   exact SeqAt.EqAt.same _
  ·obtain⟨its,v1,t1,_⟩:=I.list q
   obtain⟨its',v2,t2,_⟩:=I.list q'
   refine SeqAt.EqAt.of_refs hp ?_
   have z1:its.toArray.size=a.length:=by rw[List.size_toArray,←v1.length,r.length]
   have z2:its'.toArray.size=b.length:=by rw[List.size_toArray,←v2.length,r'.length]
   by_cases hl:a.length=b.length
   ·have h:=SeqAt.RcAt.lists (A:=A) (e:=fun j=>decide (a[j]?=b[j]?)) t1.isList t2.isList (by omega) (by omega) (fA k I (by show A.units+1+k.dep<cLine;omega) r r' v1 v2)
    rw[z1,jS hl] at h
    exact h
   ·rw[decide_eq_false (fun z=>hl (by rw[z]))]
    exact SeqAt.RcAt.lists_lengths t1.isList t2.isList (by rw[z1,z2];simpa using hl) (by omega)
 rcAt:=fun {X aa σ H s A x y a b u v} I hu ⟨p,xs,e,q,r⟩ ⟨p',xs',e',q',r'⟩ rx ry=>by
  subst e e'
  cases rx
  cases ry
  obtain⟨its,v1,t1,_⟩:=I.list q
  obtain⟨its',v2,t2,_⟩:=I.list q'
  have z1:its.toArray.size=a.length:=by rw[List.size_toArray,←v1.length,r.length]
  have z2:its'.toArray.size=b.length:=by rw[List.size_toArray,←v2.length,r'.length]
  by_cases hl:a.length=b.length
  ·have h:=SeqAt.RcAt.lists (A:=A) (e:=fun j=>decide (a[j]?=b[j]?)) t1.isList t2.isList (by omega) (by omega) (fA k I (by show A.units+1+k.dep<cLine;omega) r r' v1 v2)
   rw[z1,jS hl] at h
   exact h
  ·rw[decide_eq_false (fun z=>hl (by rw[z]))]
   exact SeqAt.RcAt.lists_lengths t1.isList t2.isList (by rw[z1,z2];simpa using hl) (by omega)
 neAt:=fun {X aa σ H s A x y a b u v} I hu ⟨p,xs,e,q,r⟩ ⟨p',xs',e',q',r'⟩ rx ry=>by
  subst e e'
  cases rx
  cases ry
  obtain⟨its,v1,t1,_⟩:=I.list q
  obtain⟨its',v2,t2,_⟩:=I.list q'
  have z1:its.toArray.size=a.length:=by rw[List.size_toArray,←v1.length,r.length]
  have z2:its'.toArray.size=b.length:=by rw[List.size_toArray,←v2.length,r'.length]
  by_cases hl:a.length=b.length
  ·have h:=SeqAt.RcNeAt.lists (A:=A) (e:=fun j=>decide (a[j]?=b[j]?)) t1.isList t2.isList (by omega) (by omega) (fA k I (by show A.units+1+k.dep<cLine;omega) r r' v1 v2)
   rw[z1,jS hl] at h
   exact h
  ·rw[decide_eq_false (fun z=>hl (by rw[z]))]
   exact SeqAt.RcNeAt.lists_lengths t1.isList t2.isList (by rw[z1,z2];simpa using hl) (by omega)
variable {X:Cx}
def AD (k:Dk α) (K:W.Frag) (neg:Bool):R2:=fun x y H Q=>∃a b,k.rep K H x a∧k.rep K H y b∧Q (.bl (if neg then !decide (a=b) else decide (a=b))) H
theorem jl (k:Dk α) (hu:X.A.units+k.dep<cLine):OpR X (compareOp .Eq) (AD k X.K false):=by
 intro aa s σ H x y v u Q I rx ry h
 obtain⟨a,b,ha,hb,q⟩:=h
 exact k.rcAt I hu ha hb rx ry X.prog X.w X.xe _ ⟨.bl (decide (a=b)),H,I,rfl,q⟩
theorem AE (k:Dk α) (hu:X.A.units+k.dep<cLine):OpR X (compareOp .NotEq) (AD k X.K true):=by
 intro aa s σ H x y v u Q I rx ry h
 obtain⟨a,b,ha,hb,q⟩:=h
 exact k.neAt I hu ha hb rx ry X.prog X.w X.xe _ ⟨.bl (!decide (a=b)),H,I,rfl,q⟩
noncomputable def iG (k:Dk α) (K:W.Frag) (H:Hp) (b:α) (u:Value):Bool:=@decide (∃y,aF y u∧k.rep K H y b) (Classical.propDecidable _)
theorem rJ (k:Dk α) {aa:List (Addr×Obj)}{σ:St}{H:Hp}{s:Shared}{y:V}{a b:α}{u:Value}(I:Inv X aa σ H s) (r:aF y u) (h:k.rep X.K H y a):iG k X.K H b u=decide (a=b):=by
 unfold iG
 by_cases z:a=b
 ·subst z
  rw[decide_eq_true rfl]
  exact @decide_eq_true _ (Classical.propDecidable _) ⟨y,r,h⟩
 ·rw[decide_eq_false z]
  refine @decide_eq_false _ (Classical.propDecidable _) ?_
  rintro⟨y',r',h'⟩
  have:=wO r r'
  subst this
  exact z (k.fn I h h')
theorem mE (k:Dk α) {aa:List (Addr×Obj)}{σ:St}{H:Hp}{s:Shared}{A:Around}{x:V}{b:α}{v:Value}(I:Inv X aa σ H s) (hu:A.units+k.dep<cLine) (rx:aF x v) (hb:k.rep X.K H x b) :
  ∀{xs:List V}{us:List Value}{as:List α},az xs us->Paired (k.rep X.K H) xs as->(∀u∈us,SeqAt.EqAt A s u v (iG k X.K H b u))∧us.any (iG k X.K H b)=as.any fun a=>decide (a=b)
 | _,_,_,.nil,.nil=>⟨fun u hu=>(by cases hu),rfl⟩
 | y::xs,u::us,a::as,.cons r t,.cons p q=>by
  obtain⟨h1,h2⟩:=mE k I hu rx hb t q
  have e:=rJ (b:=b) k I r p
  refine⟨fun w hw=>?_,by rw[List.any_cons,List.any_cons,e,h2]⟩
  rcases List.mem_cons.mp hw with rfl|hw
  ·rw[e];exact k.eqAt I hu p hb r rx
  ·exact h1 w hw
def EI (k:Dk α) (K:W.Frag) (neg:Bool):R2:=fun x y H Q=>∃b as,k.rep K H x b∧(e9 k).rep K H y as∧Q (.bl (if neg then !as.any (fun a=>decide (a=b)) else as.any (fun a=>decide (a=b)))) H
theorem uZ (k:Dk α) (hu:X.A.units+1+k.dep<cLine):OpR X (compareOp .NotIn) (EI k X.K true):=by
 intro aa s σ H x y v u Q I rx ry h
 obtain⟨b,as,hb,⟨p,xs,rfl,hq,hp⟩,q⟩:=h
 cases ry
 obtain⟨its,r,pl,hz⟩:=I.list hq
 obtain⟨h1,h2⟩:=mE k (A:=X.A.in1) I hu rx hb r hp
 refine SeqAt.notIn_listAt (iG k X.K H b) pl.isList (fun w hw=>h1 w (by simpa using hw)) ⟨.bl _,H,I,rfl,?_⟩
 rw[show its.toArray.any (iG k X.K H b)=its.any (iG k X.K H b) by simp,h2]
 exact q
def y4 (k:Dk α) (K:W.Frag):V->List V->Hp->VK->Prop:=fun o vs H Q=>∃x b as j,vs=[x]∧k.rep K H x b∧(e9 k).rep K H o as∧as[j]?=some b∧(∀(i:Nat),i<j->as[i]?≠some b)∧Q (.int (j:Int)) H
theorem u3 (k:Dk α) (hu:X.A.units+4+k.dep<cLine):MtM X "list.index" (y4 k X.K):=by
 intro aa s σ H o vs v us Q I ro rv h
 obtain⟨x,b,as,j,rfl,hb,⟨p,xs,rfl,hq,hp⟩,hit,hno,q⟩:=h
 cases ro
 obtain⟨u,rfl,ru⟩:=rv.one
 obtain⟨its,r,pl,hz⟩:=I.list hq
 obtain⟨⟨cls,dd,data,sl⟩,ho,hc,n,hd⟩:=pl.isList
 simp only at hc hd
 subst hc hd
 have hl:=r.length
 have hl2:=hp.length
 have hj:j<as.length:=(List.getElem?_eq_some_iff.mp hit).1
 have hjs:j<its.toArray.size:=by simp;omega
 have at_:∀(i:Nat) (hi:i<its.toArray.size) (a:α),as[i]?=some a->iG k X.K H b its.toArray[i]=decide (a=b):=fun i hi a ha=>by
  obtain⟨z,hz,hr⟩:=dN hp ha
  obtain⟨w,e1,e2⟩:=r.get hz
  have:its.toArray[i]=w:=by
   have:=(List.getElem?_eq_some_iff.mp e1).2
   simpa using this
  rw[this]
  exact rJ k I e2 hr
 refine call_meets PySem.F.slot_list_index ⟨_,ho,rfl⟩ PySem.F.entry_list_index (PySem.F.args_list_index_2 _ _)
  (SeqAt.list_indexAt p its.toArray n dd sl u (iG k X.K H b) j hjs (by have:=hz;rw[sizeLine_eq] at this;omega) (by rw[at_ j hjs b hit];exact decide_eq_true rfl) fun m hm hlt=>?_) ⟨ho,fun z hz'=>?_,?_⟩
 ·have hm':m<as.length:=by omega
  rw[at_ m hm _ (List.getElem?_eq_getElem hm')]
  refine decide_eq_false fun e=>hno m hlt ?_
  rw[List.getElem?_eq_getElem hm',e]
 ·exact(mE k I (by first|omega|(show X.A.units+_+k.dep<cLine;omega)) ru hb r hp).1 z (by simpa using hz')
 ·exact⟨.int (j:Int),H,I.tok _,⟨s.toks,rfl⟩,q⟩
end
end L2
namespace L2
open PySem PySem.Spec PyProof.Rows
section
variable {κ:Type} [DecidableEq κ]
def cf (kvs:List (κ×V)) (k:κ):Option V:=(kvs.find? fun kv=>decide (kv.1=k)).map (·.2)
def cG (kvs:List (κ×V)) (k:κ) (v:V):List (κ×V):=
 if (kvs.any fun kv=>decide (kv.1=k))=true then kvs.map (fun kv=>if kv.1=k then (kv.1,v) else kv) else kvs++[(k,v)]
theorem EJ {k:κ}:cf ([]:List (κ×V)) k=none:=rfl
theorem dD {p:κ×V}{r:List (κ×V)}{k:κ}(e:p.1=k):cf (p::r) k=some p.2:=by simp[cf,List.find?_cons,e]
theorem dE {p:κ×V}{r:List (κ×V)}{k:κ}(e:¬p.1=k):cf (p::r) k=cf r k:=by simp[cf,List.find?_cons,e]
theorem iH (k:κ):∀kvs:List (κ×V),(kvs.any fun kv=>decide (kv.1=k))=(cf kvs k).isSome
 | []=>rfl
 | p::r=>by
  rw[List.any_cons]
  by_cases e:p.1=k
  ·simp only[dD e,decide_eq_true e,Bool.true_or,Option.isSome_some]
  ·rw[dE e,decide_eq_false e,Bool.false_or];exact iH k r
theorem fK (kvs:List (κ×V)) (k:κ) (v:V):(cG kvs k v).length≤kvs.length+1:=by
 unfold cG
 split
 ·rw[List.length_map];omega
 ·rw[List.length_append,List.length_cons,List.length_nil];omega
theorem dX.isSome_eq {o:Option V}{u:Option Value}(r:dX o u):o.isSome=u.isSome:=by
 cases o with
 | none=>cases u with
  | none=>rfl
  | some _=>exact(show False from r).elim
 | some _=>cases u with
  | none=>exact(show False from r).elim
  | some _=>rfl
theorem KV.val {kvs:List (κ×V)}{vs:List (κ×Value)}(r:KV kvs vs) (k:κ):dX (cf kvs k) (valueAt vs k):=by
 unfold KV at r
 induction r with
 | nil=>exact True.intro
 | @cons p q ps qs h t ih=>
  obtain⟨h1,h2⟩:=h
  by_cases e:p.1=k
  ·have e':q.1=k:=h1.symm.trans e
   have b:valueAt (q::qs) k=some q.2:=by simp[valueAt,List.find?_cons,e']
   rw[dD e,b];exact h2
  ·have e':¬q.1=k:=fun z=>e (h1.trans z)
   have b:valueAt (q::qs) k=valueAt qs k:=by simp[valueAt,List.find?_cons,e']
   rw[dE e,b];exact ih
theorem KV.any {kvs:List (κ×V)}{vs:List (κ×Value)}(r:KV kvs vs) (k:κ):(kvs.any fun kv=>decide (kv.1=k))=vs.any fun kv=>decide (kv.1=k):=by
 unfold KV at r
 induction r with
 | nil=>rfl
 | cons h t ih=>rw[List.any_cons,List.any_cons,ih,h.1]
theorem KV.repl {kvs:List (κ×V)}{vs:List (κ×Value)}(r:KV kvs vs) (k:κ) {y:V}{u:Value}(ry:aF y u) :
  KV (kvs.map fun kv=>if kv.1=k then (kv.1,y) else kv) (vs.map fun kv=>if kv.1=k then (kv.1,u) else kv):=by
 unfold KV at r ⊢
 induction r with
 | nil=>exact .nil
 | @cons p q ps qs h t ih=>
  rw[List.map_cons,List.map_cons]
  refine .cons ?_ ih
  obtain⟨h1,h2⟩:=h
  by_cases e:p.1=k
  ·rw[if_pos e,if_pos (h1.symm.trans e)];exact⟨h1,ry⟩
  ·rw[if_neg e,if_neg (fun z=>e (h1.trans z))];exact⟨h1,h2⟩
theorem KV.put {kvs:List (κ×V)}{vs:List (κ×Value)}(r:KV kvs vs) (k:κ) {y:V}{u:Value}(ry:aF y u):KV (cG kvs k y) (stored vs k u):=by
 unfold cG stored
 rw[r.any k]
 by_cases e:(vs.any fun kv=>decide (kv.1=k))=true
 ·rw[if_pos e,if_pos e];exact r.repl k ry
 ·rw[if_neg e,if_neg e];exact Paired.snoc r ⟨rfl,ry⟩
theorem KV.length {kvs:List (κ×V)}{vs:List (κ×Value)}(r:KV kvs vs):kvs.length=vs.length:=Paired.length r
end
theorem jT {P:Program}{w:World}{k:Key}{u:Value}(r:aF (kV k) u):(bh P w).is k u=true:=by
 cases k with
 | inl i=>obtain⟨t,e⟩:=(show ∃t,u=Value.int i t from r);subst e;exact qX P w i t
 | inr x=>obtain⟨t,e⟩:=(show ∃t,u=Value.str x t from r);subst e;exact qY P w x t
theorem m7 {P:Program}{w:World}:∀{ks:List Key}{us:List Value},az (ks.map kV) us->ItemsAre (bh P w) ks us
 | [],_,r=>by rw[List.map_nil] at r;cases r;exact .nil
 | k::ks,_,r=>by
  rw[List.map_cons] at r
  cases r with
  | cons h t=>exact .cons (jT h) (m7 t)
abbrev KT (H:Hp):List (List Key×V)->List (List Key×Addr×Value)->Prop:=Paired fun p q=>p.1=q.1∧H q.2.1=some (.tup (p.1.map kV))∧aF p.2 q.2.2
theorem KT.val {H:Hp}{kvs:List (List Key×V)}{xs:List (List Key×Addr×Value)}(r:KT H kvs xs) (k:List Key):dX (cf kvs k) ((atKey xs k).map (·.2)):=by
 induction r with
 | nil=>exact True.intro
 | @cons p q ps qs h t ih=>
  obtain⟨h1,_,h2⟩:=h
  by_cases e:p.1=k
  ·have e':q.1=k:=h1.symm.trans e
   have b:atKey (q::qs) k=some q.2:=by simp[atKey,List.find?_cons,e']
   rw[dD e,b];exact h2
  ·have e':¬q.1=k:=fun z=>e (h1.trans z)
   have b:atKey (q::qs) k=atKey qs k:=by simp[atKey,List.find?_cons,e']
   rw[dE e,b];exact ih
theorem KT.repl {H:Hp}{kvs:List (List Key×V)}{xs:List (List Key×Addr×Value)}(r:KT H kvs xs) (k:List Key) {y:V}{u:Value}(ry:aF y u) :
  KT H (kvs.map fun kv=>if kv.1=k then (kv.1,y) else kv) (xs.map (putAt k u)):=by
 induction r with
 | nil=>exact .nil
 | @cons p q ps qs h t ih=>
  rw[List.map_cons,List.map_cons]
  refine .cons ?_ ih
  obtain⟨h1,h2,h3⟩:=h
  unfold putAt
  by_cases e:p.1=k
  ·rw[if_pos e,if_pos (h1.symm.trans e)];exact⟨h1,h2,ry⟩
  ·rw[if_neg e,if_neg (fun z=>e (h1.trans z))];exact⟨h1,h2,h3⟩
theorem KT.put {H:Hp}{kvs:List (List Key×V)}{xs:List (List Key×Addr×Value)}(r:KT H kvs xs) (k:List Key) {b:Addr}{y:V}{u:Value}(hb:H b=some (.tup (k.map kV))) (ry:aF y u) :
  KT H (cG kvs k y) (storedH xs k b u):=by
 have e:(kvs.any fun kv=>decide (kv.1=k))=(atKey xs k).isSome:=by
  rw[iH,(r.val k).isSome_eq,Option.isSome_map]
 unfold cG storedH
 rw[e]
 by_cases q:(atKey xs k).isSome=true
 ·rw[if_pos q,if_pos q];exact r.repl k ry
 ·rw[if_neg q,if_neg q];exact Paired.snoc r ⟨rfl,hb,ry⟩
theorem KT.keeps {H H':Hp}{kvs:List (List Key×V)}{xs:List (List Key×Addr×Value)}(r:KT H kvs xs) (ht:∀b ys,H b=some (.tup ys)->H' b=some (.tup ys)):KT H' kvs xs:=
 Paired.mapP r fun _ _ z=>⟨z.1,ht _ _ z.2.1,z.2.2⟩
section
variable {P:Program}{w:World}{H:Hp}{h:Heap}{a:Addr}
theorem xY {u:HO}(ok:HOk P w H h) (e:Rd H a u):bc P w H h a u:=e.ok ok
theorem ow {kvs:List (Key×V)}(ok:HOk P w H h) (e:Rd H a (.dK kvs)):kvs.length≤sizeLine∧(a==sysModules)=false∧∃vs,KV kvs vs∧h.DictOf (bh P w) a vs:=
 show bc P w H h a (.dK kvs) from xY ok e
theorem lB {kvs:List (Key×V)}(ok:HOk P w H h) (e:H a=some (.dK kvs)):kvs.length≤sizeLine∧(a==sysModules)=false∧∃vs,KV kvs vs∧h.DictOf (bh P w) a vs:=ow ok (.inl e)
theorem lC {ks:List Key}(ok:HOk P w H h) (e:H a=some (.tup (ks.map kV))):(tupleKind (bh P w)).is h ks a:=by
 obtain⟨_,its,r,o,h1,h2,n,h3⟩:=(show bc P w H h a (.tup (ks.map kV)) from ok a _ e)
 exact⟨o,its.toArray,n,h1,h2,h3,by simpa using m7 r⟩
theorem ox {kvs:List (List Key×V)}(ok:HOk P w H h) (e:Rd H a (.dT kvs)):kvs.length≤sizeLine∧(a==sysModules)=false∧
  ∃xs,KT H kvs xs∧h.DictOfH (tupleKind (bh P w)) a xs:=by
 obtain⟨z,y,xs,r,o,es,ep,h1,h2,h3,h4,h5⟩:=(show bc P w H h a (.dT kvs) from xY ok e)
 refine⟨z,y,xs,r,o,es,ep,h1,h2,h3,h4,fun x hx=>?_,h5⟩
 have all:∀{l:List (List Key×V)}{m:List (List Key×Addr×Value)},KT H l m->∀x∈m,(tupleKind (bh P w)).is h x.1 x.2.1:=by
  intro l m q
  induction q with
  | nil=>intro x hx;exact nomatch hx
  | @cons p q ps qs hq t ih=>
   intro x hx
   rcases List.mem_cons.mp hx with e|hx
   ·subst e
    exact lC ok (by rw[←hq.1];exact hq.2.1)
   ·exact ih x hx
 exact all r x hx
theorem Dz {kvs:List (List Key×V)}(ok:HOk P w H h) (e:H a=some (.dT kvs)):kvs.length≤sizeLine∧(a==sysModules)=false∧
  ∃xs,KT H kvs xs∧h.DictOfH (tupleKind (bh P w)) a xs:=ox ok (.inl e)
end
def iI (H:Hp) (a:Addr) (y:V) (r:Option V):Prop:=
 (∃kvs k,Rd H a (.dK kvs)∧y=kV k∧r=cf kvs k)∨∃kvs k b,Rd H a (.dT kvs)∧y=.ref b∧H b=some (.tup (k.map kV))∧r=cf kvs k
def ph (H:Hp) (a:Addr) (y v:V) (H':Hp):Prop:=
 (∃kvs k,H a=some (.dK kvs)∧y=kV k∧kvs.length<sizeLine∧H'=upd H a (.dK (cG kvs k v)))∨
 ∃kvs k b,H a=some (.dT kvs)∧y=.ref b∧H b=some (.tup (k.map kV))∧kvs.length<sizeLine∧H'=upd H a (.dT (cG kvs k v))
theorem iI.k {H:Hp}{a:Addr}{kvs:List (Key×V)}{k:Key}(e:H a=some (.dK kvs)):iI H a (kV k) (cf kvs k):=.inl ⟨kvs,k,.inl e,rfl,rfl⟩
theorem ph.k {H:Hp}{a:Addr}{kvs:List (Key×V)}{k:Key}{v:V}(e:H a=some (.dK kvs)) (hl:kvs.length<sizeLine):ph H a (kV k) v (upd H a (.dK (cG kvs k v))):=.inl ⟨kvs,k,e,rfl,hl,rfl⟩
section
variable {X:Cx}{aa:List (Addr×Obj)}{σ:St}{H:Hp}{s:Shared}{a:Addr}{y v:V}{u r:Value}{o:Option V}{A:Around}{E:Value->Shared->Prop}
theorem Inv.big (I:Inv X aa σ H s):sysModules<s.heap.objs.size:=by
 have h:mainGlobals<s.heap.objs.size:=(I.mod.glob.keeps I.bk).lt
 exact Nat.lt_trans (by decide) h
theorem u4 {Q:Value->Shared->Prop}(hu:A.units+1<cLine) (I:Inv X aa σ H s) (g:iI H a y (some v)) (ry:aF y u) (h:∀w' s',Inv X aa σ H s'->aF v w'->Q w' s') :
  wpAny (model X.prog X.w) A (getItem (.ref a) u) Q E s:=by
 rcases g with⟨kvs,k,e,ey,l⟩|⟨kvs,k,b,e,ey,eb,l⟩
 ·subst ey
  obtain⟨z,hd,vs,rel,dd⟩:=ow I.hok e
  obtain⟨w',hw,rw'⟩:=dX.some_of (v:=v) (o:=valueAt vs k) (by rw[l];exact rel.val k)
  exact wpAny_getItem_of (jT ry) dd.mapOf hw (h w' _ (I.tok _) rw')
 ·subst ey
  cases (show u=Value.ref b from ry)
  obtain⟨z,hd,xs,rel,dd⟩:=ox I.hok e
  obtain⟨w',hw,rw'⟩:=dX.some_of (v:=v) (o:=(atKey xs k).map (·.2)) (by rw[l];exact rel.val k)
  obtain⟨p,hp,hp2⟩:=Option.map_eq_some_iff.mp hw
  refine wpAny_getItem_heap (tupleKind_room_in1 hu) (lC I.hok eb) dd hp ?_
  rw[hp2]
  exact h w' _ (I.tok _) rw'
theorem EK {Q:Value->Shared->Prop}(hu:A.units+1<cLine) (I:Inv X aa σ H s) (g:iI H a y o) (ry:aF y u) (h:∀s',Inv X aa σ H s'->Q (.bool o.isSome) s') :
  wpAny (model X.prog X.w) A (compareOp .In u (.ref a)) Q E s:=by
 rcases g with⟨kvs,k,e,ey,l⟩|⟨kvs,k,b,e,ey,eb,l⟩
 ·subst ey
  obtain⟨z,hd,vs,rel,dd⟩:=ow I.hok e
  refine wpAny_in_of (jT ry) hd dd.mapOf ?_
  rw[←(rel.val k).isSome_eq,←l]
  exact h _ (I.tok _)
 ·subst ey
  cases (show u=Value.ref b from ry)
  obtain⟨z,hd,xs,rel,dd⟩:=ox I.hok e
  refine wpAny_in_heap (tupleKind_room_in1 hu) (lC I.hok eb) hd dd ?_
  have q:=(rel.val k).isSome_eq
  rw[Option.isSome_map] at q
  rw[←q,←l]
  exact h _ (I.tok _)
theorem jU {h':Heap}{t':Nat}{ob:HO}(I:Inv X aa σ H s) (mu:Mut (H a)) (hs:Heap.SameBut a s.heap h') (he:∃q,h'.get? a=some q) (new:bc X.prog X.w (upd H a ob) h' a ob) :
  Inv X aa σ (upd H a ob) { s with heap:=h',toks:=t' }:=
 I.write (x:=a) (e:=a) mu (.inl rfl) (fun b q hb z=>(hs.2 b hb).trans z) he new
theorem pi {P:Program}{w:World}{H':Hp}{h':Heap}{kvs:List (Key×V)}{vs:List (Key×Value)}(z:kvs.length≤sizeLine) (hd:(a==sysModules)=false) (rel:KV kvs vs) (dd:h'.DictOf (bh P w) a vs) :
  bc P w H' h' a (.dK kvs):=⟨z,hd,vs,rel,dd⟩
theorem u5 {H':Hp}{Q:Unit->Shared->Prop}(hu:A.units+1<cLine) (I:Inv X aa σ H s) (g:ph H a y v H') (ry:aF y u) (rv:aF v r) (h:∀s',Inv X aa σ H' s'->Q () s') :
  wpAny (model X.prog X.w) A (setItem (.ref a) u r) Q E s:=by
 rcases g with⟨kvs,k,e,ey,l,eH⟩|⟨kvs,k,b,e,ey,eb,l,eH⟩
 ·subst ey eH
  obtain⟨z,hd,vs,rel,dd⟩:=lB I.hok e
  have hz:vs.length≤sizeLine:=by rw[←rel.length];exact z
  have hl:(cG kvs k v).length≤sizeLine:=by have:=fK kvs k v;omega
  refine wpAny_setItem_pairs (hsz:=hz) (jT ry) dd fun h' dd' hs=>h _ ?_
  have he:∃q,h'.get? a=some q:=let ⟨q,_,_,hq,_⟩:=dd';⟨q,hq⟩
  exact jU I (by rw[e];exact True.intro) hs he (pi hl hd (rel.put k rv) dd')
 ·subst ey eH
  cases (show u=Value.ref b from ry)
  obtain⟨z,hd,xs,rel,dd⟩:=Dz I.hok e
  have hz:xs.length≤sizeLine:=by rw[←Paired.length rel];exact z
  have hl:(cG kvs k v).length≤sizeLine:=by have:=fK kvs k v;omega
  refine wpAny_setItem_heap (hsz:=hz) (tupleKind_room_in1 hu) (lC I.hok eb) dd fun h' dd' hs=>h _ ?_
  obtain⟨q,es,ep,hq,h2,h3,h4,_,h5⟩:=dd'
  refine jU I (by rw[e];exact True.intro) hs ⟨q,hq⟩ ⟨hl,hd,_,(rel.put k eb rv).keeps fun c ys ec=>?_,q,es,ep,hq,h2,h3,h4,h5⟩
  rw[aq (oj ec e (fun z=>nomatch z))]
  exact ec
end
section
variable {X:Cx}{aa:List (Addr×Obj)}{σ:St}{H:Hp}{s:Shared}{a:Addr}{kvs:List (Key×V)}{k:Key}{u:Value}{A:Around}{E:Value->Shared->Prop}
end
def wP (i:Expr):Prop:=∀ov iv,subscripted i false ov iv=operate [ov,iv] (getItem ov iv)
theorem rK {prog:Program}{w:World}{A:Around}{E:Value->Shared->Prop}{s:Shared}{env:Env}{value slice:Expr}{pos:Pos}{T id:String}{Q:Value->Shared->Prop}
  (hl:typeLookup (.type T) "__getitem__"=pure (some (.builtin id))) (hs:wP slice)
  (h:wpAny (model prog w) A (eval value env) (fun o s₁=>wpAny (model prog w) A (eval slice env) (fun i s₂=>s₂.TypeIs o T∧wpAny (model prog w) A (getItem o i) Q E s₂) E s₁) E s) :
  wpAny (model prog w) A (eval (.Subscript value slice pos) env) Q E s:=by
 refine Subscript_ (wpAny_mono h (fun o s₁ h₁=>wpAny_mono h₁ (fun i s₂ h₂=>?_) fun _ _ x=>x) fun _ _ x=>x)
 obtain⟨hT,h₂⟩:=h₂
 unfold subscriptTail
 refine wpAny_bind ?_
 rw[getitemInPython_of_ne hT.not_modules]
 refine wpAny_bind (wpAny_specialOf hT hl ?_)
 have fin:wpAny (model prog w) A (subscripted slice false o i) (fun r s₃=>wpAny (model prog w) A (letTemporaryGo value o r >>= fun _=>pure r) Q E s₃) E s₂:=by
  rw[hs o i]
  exact wpAny_operating (wpAny_mono h₂ (fun r s₃ h₃=>wpAny_bind (wpAny_letTemporaryGo (wpAny_pure h₃))) fun _ _ x=>x)
 first
  | exact wpAny_pure (wpAny_bind fin)
  | exact wpAny_bind (wpAny_pure (wpAny_bind fin))
  | exact wpAny_bind fin
theorem rd {X:Cx}{aa:List (Addr×Obj)}{σ:St}{H:Hp}{s:Shared}{a:Addr}{y:V}{o:Option V}(I:Inv X aa σ H s) (g:iI H a y o):s.TypeIs (.ref a) "dict":=by
 rcases g with⟨kvs,k,e,_,_⟩|⟨kvs,k,b,e,_,_,_⟩
 ·obtain⟨_,_,vs,_,dd⟩:=ow I.hok e
  exact dd.typeIs
 ·obtain⟨_,_,xs,_,dd⟩:=ox I.hok e
  exact dd.typeIs
def DA (td ty:TE):TE:=fun σ H Q=>td σ H fun x H1=>ty σ H1 fun y H2=>∃a v,x=.ref a∧iI H2 a y (some v)∧Q v H2
def EL (ty td:TE):TE:=fun σ H Q=>ty σ H fun y H1=>td σ H1 fun x H2=>∃a o,x=.ref a∧iI H2 a y o∧Q (.bl o.isSome) H2
def DB (td ty tv:TE):TS:=fun D σ H=>tv σ H fun v H1=>td σ H1 fun x H2=>ty σ H2 fun y H3=>∃a H4,x=.ref a∧ph H3 a y v H4∧D.nx σ H4
section
variable {X:Cx}{o i e value:Expr}{pos pos' tpos:Pos}{td ty tv:TE}
theorem y7 (hu:X.A.units+1<cLine) (ho:PE X o td) (hi:PE X i ty) (hs:wP i):PE X (.Subscript o i pos) (DA td ty):=by
 intro aa s σ H Q I h
 refine rK PySem.F.slot_dict_getitem.lookup hs (thn (ho aa s σ H _ I h) fun u s1 ⟨x,H1,I1,rx,q1⟩=>thn (hi aa s1 σ H1 _ I1 q1) fun iv s2 ⟨y,H2,I2,ry,a,v,ex,g,q2⟩=>?_)
 subst ex
 obtain rfl:u=Value.ref a:=rx
 exact⟨rd I2 g,u4 hu I2 g ry fun w' s3 I3 rw'=>⟨v,H2,I3,rw',q2⟩⟩
theorem u6 (hu:X.A.units+1<cLine) (hi:PE X i ty) (ho:PE X o td):PC X .In i o (EL ty td):=by
 intro aa s σ H Q I h
 refine thn (hi aa s σ H _ I h) fun iv s1 ⟨y,H1,I1,ry,q1⟩=>thn (ho aa s1 σ H1 _ I1 q1) fun u s2 ⟨x,H2,I2,rx,a,ov,ex,g,q2⟩=>?_
 subst ex
 obtain rfl:u=Value.ref a:=rx
 exact EK hu I2 g ry fun s3 I3=>⟨.bl ov.isSome,H2,I3,rfl,q2⟩
theorem y8 (hu:X.A.units+1<cLine) (ho:PE X o td) (hi:PE X i ty) (hv:PE X value tv) (hs:swapsWith value (some (.Subscript o i pos')) pos.line X.env=pure false) :
  PS X (.Assign [.Subscript o i pos'] value pos) (DB td ty tv):=by
 intro aa s σ H D I h
 refine wpAny_Assign_Subscript (thn (hv aa s σ H _ I h) fun r s1 ⟨v,H1,I1,rv,q1⟩=>thn (ho aa s1 σ H1 _ I1 q1) fun u s2 ⟨x,H2,I2,rx,q2⟩=>thn (hi aa s2 σ H2 _ I2 q2) fun iv s3 ⟨y,H3,I3,ry,a,H4,ex,g,q3⟩=>?_) hs
 subst ex
 obtain rfl:u=Value.ref a:=rx
 exact u5 hu I3 g ry rv fun s4 I4=>⟨σ,H4,I4,q3⟩
end
theorem pj {P:Program}{w:World}{H:Hp}(h:Heap) (hb:sysModules<h.objs.size):bc P w H (h.push { cls:=.type "dict",data:=.dict #[] }) h.objs.size (.dK []):=
 ⟨Nat.zero_le _,beq_eq_false_iff_ne.mpr (Ne.symm (Nat.ne_of_lt hb)),[],.nil,Heap.DictOf.new h⟩
def AF:TE:=fun _ H Q=>∀p,H p=none->Q (.ref p) (upd H p (.dK []))
section
variable {X:Cx}{pos:Pos}
theorem wQ:PE X (.Dict [] [] pos) AF:=fun aa s σ H Q I h=>
 wpAny_Dict_empty ⟨.ref s.heap.objs.size,_,I.laid (a:=s.heap.objs.size) (o:=.dK []) (t':=s.toks) (fun _ _ q=>Heap.get?_push_of_some _ q) (Nat.le_refl _) (pj s.heap I.big),rfl,h _ (I.hok.fresh (Nat.le_refl _))⟩
end
def pp:List (TE×TE)->St->Hp->(List (V×V)->Hp->Prop)->Prop
 | [],_,H,Q=>Q [] H
 | (tk,tv)::r,σ,H,Q=>tk σ H fun x H1=>tv σ H1 fun y H2=>pp r σ H2 fun ps H3=>Q ((x,y)::ps) H3
abbrev VV:List (V×V)->List (Value×Value)->Prop:=Paired fun p q=>aF p.1 q.1∧aF p.2 q.2
def PPs (X:Cx) (pos:Pos) (keys:List (Option Expr)) (values:List Expr) (trs:List (TE×TE)):Prop:=
 ∀(aa:List (Addr×Obj)) (s:Shared) (σ:St) (H:Hp) (Q:List (V×V)->Hp->Prop),Inv X aa σ H s->pp trs σ H Q->
  wpAny (model X.prog X.w) X.A (evalPairs (pairTrees keys values X.env pos)) (fun vs s'=>∃ps H',Inv X aa σ H' s'∧VV ps vs∧Q ps H') X.xe s
theorem y9 {X:Cx}{pos:Pos}:PPs X pos [] [] []:=fun aa s σ H Q I h=>pairTrees_nil_walk ⟨[],H,I,.nil,h⟩
theorem pq {X:Cx}{pos:Pos}{k v:Expr}{ks:List (Option Expr)}{vs:List Expr}{tk tv:TE}{trs:List (TE×TE)}(hk:PE X k tk) (hv:PE X v tv) (hr:PPs X pos ks vs trs) :
  PPs X pos (some k::ks) (v::vs) ((tk,tv)::trs):=fun aa s σ H Q I h=>
 pairTrees_cons_walk (thn (hk aa s σ H _ I h) fun u s1 ⟨x,H1,I1,rx,q1⟩=>thn (hv aa s1 σ H1 _ I1 q1) fun w2 s2 ⟨y,H2,I2,ry,q2⟩=>
  thn (hr aa s2 σ H2 _ I2 q2) fun ws s3 ⟨ps,H3,I3,rel,q3⟩=>⟨(x,y)::ps,H3,I3,.cons ⟨rx,ry⟩ rel,q3⟩)
def gw (kvs more:List (Key×V)):List (Key×V):=more.foldl (fun acc kv=>cG acc kv.1 kv.2) kvs
theorem KV.merge:∀{more:List (Key×V)}{rs:List (Key×Value)}{kvs:List (Key×V)}{vs:List (Key×Value)},KV more rs->KV kvs vs->KV (gw kvs more) (merged vs rs):=by
 intro more rs kvs vs r
 unfold KV at r
 induction r generalizing kvs vs with
 | nil=>intro q;exact q
 | @cons p q ps qs h t ih=>
  intro r0
  have e:KV (cG kvs p.1 p.2) (stored vs q.1 q.2):=by
   have:=r0.put p.1 h.2
   rw[←h.1];exact this
  exact ih e
theorem jc:∀(more kvs:List (Key×V)),(gw kvs more).length≤kvs.length+more.length
 | [],kvs=>by show kvs.length≤kvs.length+0;omega
 | p::r,kvs=>by
  have h1:=jc r (cG kvs p.1 p.2)
  have h2:=fK kvs p.1 p.2
  show(gw (cG kvs p.1 p.2) r).length≤_
  rw[List.length_cons];omega
theorem lD {P:Program}{w:World}:∀{kvs:List (Key×V)}{ws:List (Value×Value)},VV (kvs.map fun kv=>(kV kv.1,kv.2)) ws->∃rs,Carries (bh P w) ws rs∧KV kvs rs
 | [],_,r=>by rw[List.map_nil] at r;cases r;exact⟨[],True.intro,.nil⟩
 | p::kvs,_,r=>by
  rw[List.map_cons] at r
  cases r with
  | @cons a b as bs h t=>
   obtain⟨rs,c,q⟩:=lD (P:=P) (w:=w) t
   obtain⟨b1,b2⟩:=b
   exact⟨(p.1,b2)::rs,⟨jT h.1,rfl,c⟩,.cons ⟨rfl,h.2⟩ q⟩
def DC (trs:List (TE×TE)):TE:=fun σ H Q=>∀p,H p=none->pp trs σ (upd H p (.dK [])) fun ps H2=>H2 p=some (.dK [])∧∃kvs:List (Key×V),ps=kvs.map (fun kv=>(kV kv.1,kv.2))∧kvs.length≤15∧Q (.ref p) (upd H2 p (.dK (gw [] kvs)))
theorem za {X:Cx}{pos:Pos}{keys:List (Option Expr)}{values:List Expr}{trs:List (TE×TE)}(h:PPs X pos keys values trs) (hall:keys.all (·.isSome)=true) (hl:keys.length=values.length) (h0:keys≠[])
  (h15:keys.length≤15):PE X (.Dict keys values pos) (DC trs):=by
 intro aa s σ H Q I q
 have hn:=I.hok.fresh (Nat.le_refl s.heap.objs.size)
 have I1:=I.laid (a:=s.heap.objs.size) (o:=.dK []) (h':=s.heap.push { cls:=.type "dict",data:=.dict #[] }) (t':=s.toks) (fun _ _ q=>Heap.get?_push_of_some _ q) (Nat.le_refl _) (pj s.heap I.big)
 refine wpAny_Dict_walk (knd:=bh X.prog X.w) hall hl h0 h15 (thn (h aa _ σ _ _ I1 (q _ hn)) fun ws s2 ⟨ps,H2,I2,rel,e,kvs,ep,lk,q2⟩=>?_)
 subst ep
 obtain⟨rs,c,rk⟩:=lD (P:=X.prog) (w:=X.w) rel
 obtain⟨z,hd,vs0,r0,dd⟩:=lB I2.hok e
 cases r0
 refine⟨rs,c,dd,fun h' dd' hs=>⟨.ref s.heap.objs.size,_,?_,rfl,q2⟩⟩
 have hz:(gw [] kvs).length≤sizeLine:=by
  have h1:=jc kvs []
  rw[List.length_nil] at h1
  rw[sizeLine_eq];omega
 have he:∃q,h'.get? s.heap.objs.size=some q:=let ⟨q,_,_,hq,_⟩:=dd';⟨q,hq⟩
 exact jU I2 (by rw[e];exact True.intro) hs he (pi hz hd (rk.merge .nil) dd')
section
variable {X:Cx}{aa:List (Addr×Obj)}{σ:St}{H:Hp}{s:Shared}{a:Addr}{y d:V}{u r:Value}{o:Option V}{A:Around}{E:Value->Shared->Prop}
end
section
variable {X:Cx}{o e f:Expr}{apos cpos:Pos}{td ty tx:TE}
end
section
variable {X:Cx}{aa:List (Addr×Obj)}{σ:St}{H:Hp}{s:Shared}{a:Addr}{kvs:List (Key×V)}{A:Around}{E:Value->Shared->Prop}
end
section
variable {X:Cx}{aa:List (Addr×Obj)}{σ:St}{H:Hp}{s:Shared}{a:Addr}{y:V}{u:Value}{A:Around}{E:Value->Shared->Prop}
end
end L2
namespace L2
open PySem PySem.Spec PyProof.Rows
section
variable {X:Cx}
end
section
variable {κ:Type} [DecidableEq κ]
end
end L2
namespace L2
open PySem PySem.Spec PyProof.Rows
def bE (h:Heap) (ks:List Int) (a:Addr):Prop:=∃items:Array Value,h.IsTuple a items∧Paired (fun v (k:Int)=>∃t,v=Value.int k t) items.toList ks
def cN (h:Heap) (kss:List (List Int)) (a:Addr):Prop:=∃items:Array Value,h.IsTuple a items∧Paired (fun v ks=>∃b,v=Value.ref b∧bE h ks b) items.toList kss
theorem rL {h:Heap}{a:Addr}{i j:Array Value}(x:h.IsTuple a i) (y:h.IsTuple a j):i=j:=by
 obtain⟨o,e,_,n,d⟩:=x
 obtain⟨o',e',_,n',d'⟩:=y
 rw[e] at e'
 cases e'
 rw[d] at d'
 injection d'
theorem bE.inj {h:Heap}{a:Addr}{x y:List Int}(p:bE h x a) (q:bE h y a):x=y:=by
 obtain⟨i,t,r⟩:=p
 obtain⟨j,t',r'⟩:=q
 have:=rL t t'
 subst this
 exact pfn (F:=fun v (k:Int)=>∃t,v=Value.int k t) (fun _ _ _ ⟨_,h1⟩ ⟨_,h2⟩=>by rw[h1] at h2;cases h2;rfl) r r'
theorem cN.inj {h:Heap}{a:Addr}{x y:List (List Int)}(p:cN h x a) (q:cN h y a):x=y:=by
 obtain⟨i,t,r⟩:=p
 obtain⟨j,t',r'⟩:=q
 have:=rL t t'
 subst this
 exact pfn (F:=fun v ks=>∃b,v=Value.ref b∧bE h ks b) (fun _ _ _ ⟨_,h1,g1⟩ ⟨_,h2,g2⟩=>by rw[h1] at h2;cases h2;exact g1.inj g2) r r'
theorem nh {h h':Heap}{a d:Addr}{o:Obj}{es ep}{i:Array Value}(x:h.IsTuple a i) (ho:h.get? d=some o) (hd:o.data=.dict es ep) (hs:Heap.SameBut d h h'):h'.IsTuple a i:=by
 obtain⟨o',e,c,n,d'⟩:=x
 refine⟨o',(hs.2 a ?_).trans e,c,n,d'⟩
 rintro rfl
 rw[e] at ho
 cases ho
 rw[d'] at hd
 cases hd
theorem bE.keeps {h h':Heap}{a d:Addr}{o:Obj}{es ep}{x:List Int}(p:bE h x a) (ho:h.get? d=some o) (hd:o.data=.dict es ep) (hs:Heap.SameBut d h h'):bE h' x a:=
 let ⟨i,t,r⟩:=p;⟨i,nh t ho hd hs,r⟩
theorem cN.keeps {h h':Heap}{a d:Addr}{o:Obj}{es ep}{x:List (List Int)}(p:cN h x a) (ho:h.get? d=some o) (hd:o.data=.dict es ep) (hs:Heap.SameBut d h h'):cN h' x a:=
 let ⟨i,t,r⟩:=p;⟨i,nh t ho hd hs,ay (fun _ _ ⟨b,e,q⟩=>⟨b,e,q.keeps ho hd hs⟩) r⟩
section
variable {A:Around}{s:Shared}
theorem pA {α:Type} [DecidableEq α] {F:Value->α->Prop}{us vs:Array Value}{as bs:List α}(p:Paired F us.toList as) (q:Paired F vs.toList bs) (h:∀u v a b,F u a->F v b->SeqAt.EqAt A s u v (decide (a=b))) :
  ∀j (h1:j<us.size) (h2:j<vs.size),SeqAt.EqAt A s us[j] vs[j] (decide (as[j]?=bs[j]?)):=by
 intro j h1 h2
 obtain⟨a,ea,ra⟩:=cw (i:=j) (a:=us[j]) p (by simp[h1])
 obtain⟨b,eb,rb⟩:=cw (i:=j) (a:=vs[j]) q (by simp[h2])
 rw[ea,eb]
 have e3:decide (some a=some b)=decide (a=b):=by
  by_cases h:a=b
  ·subst h;simp
  ·simp[h]
 rw[e3]
 exact h _ _ _ _ ra rb
theorem xZ {x y:List Int}{a b:Addr}(hu:A.units<cLine) (p:bE s.heap x a) (q:bE s.heap y b):SeqAt.EqAt A s (.ref a) (.ref b) (decide (x=y)):=by
 by_cases e:a=b
 ·subst e
  have:=p.inj q
  subst this
  rw[decide_eq_true rfl]
  exact SeqAt.EqAt.same _
 ·obtain⟨i,t,r⟩:=p
  obtain⟨j,t',r'⟩:=q
  refine SeqAt.EqAt.of_refs e ?_
  have h:=SeqAt.RcAt.tuples (A:=A) (e:=fun k=>decide (x[k]?=y[k]?)) t t' hu (pA r r' fun u v a b ⟨_,h1⟩ ⟨_,h2⟩=>by
   subst h1 h2
   rw[←hW]
   exact SeqAt.EqAt.int_int _ _ _ _)
  rw[hZ (by rw[←Array.length_toList,r.length]) (by rw[←Array.length_toList,r'.length])] at h
  exact h
theorem AG {x y:List (List Int)}{a b:Addr}(hu:A.units+1<cLine) (p:cN s.heap x a) (q:cN s.heap y b):SeqAt.EqAt A s (.ref a) (.ref b) (decide (x=y)):=by
 by_cases e:a=b
 ·subst e
  have:=p.inj q
  subst this
  rw[decide_eq_true rfl]
  exact SeqAt.EqAt.same _
 ·obtain⟨i,t,r⟩:=p
  obtain⟨j,t',r'⟩:=q
  refine SeqAt.EqAt.of_refs e ?_
  have h:=SeqAt.RcAt.tuples (A:=A) (e:=fun k=>decide (x[k]?=y[k]?)) t t' (by omega) (pA r r' fun u v a b ⟨_,h1,g1⟩ ⟨_,h2,g2⟩=>by
   subst h1 h2
   exact xZ (A:=A.in1) hu g1 g2)
  rw[hZ (by rw[←Array.length_toList,r.length]) (by rw[←Array.length_toList,r'.length])] at h
  exact h
end
section
variable {prog:Program}{w:World}{A:Around}{E:Value->Shared->Prop}{s:Shared}
theorem items_int:∀{vs:List Value}{ks:List Int},Paired (fun v (k:Int)=>∃t,v=Value.int k t) vs ks->ItemsAre (intKind prog w) ks vs
 | _,_,.nil=>.nil
 | _,_,.cons ⟨t,e⟩ r=>by
  subst e
  exact .cons (by simp[intKind,Value.isInt]) (items_int r)
theorem bE.key {h:Heap}{ks:List Int}{a:Addr}(p:bE h ks a):IsTupleKey (intKind prog w) h ks a:=by
 obtain⟨i,⟨o,e,c,n,d⟩,r⟩:=p
 exact⟨o,i,n,e,c,d,items_int r⟩
def fN (ks:List Int):Int:=reduceHash (Builtin.Tuple.tupleHashOf (ks.map hashInt))
def ib (kss:List (List Int)):Int:=reduceHash (Builtin.Tuple.tupleHashOf (kss.map fN))
def kL (kss:List (List Int)):Nat:=(kss.map fun ks=>ks.length+1).sum+1
theorem fb {a:Addr}{i:Array Value}(x:s.heap.IsTuple a i):s.TypeIs (.ref a) "tuple":=let ⟨o,e,c,_⟩:=x;⟨o,e,c⟩
theorem ni {ks:List Int}{a:Addr}{Q:Int->Shared->Prop}(hu:A.units<cLine) (hk:bE s.heap ks a) (h:Q (fN ks) { s with toks:=s.toks+(ks.length+1) }):wpAny (model prog w) A (pyHash (.ref a)) Q E s:=
 wpAny_pyHash_tuple (knd:=intKind prog w) hu hk.key h
theorem tI {kss:List (List Int)}{a:Addr}{Q:Int->Shared->Prop}(hu:A.units+1<cLine) (hk:cN s.heap kss a) (h:Q (ib kss) { s with toks:=s.toks+kL kss }):wpAny (model prog w) A (pyHash (.ref a)) Q E s:=by
 obtain⟨items,tp,hi⟩:=hk
 have hT:=fb tp
 obtain⟨o,ho,hcl,n,hd⟩:=tp
 unfold pyHash
 first|unfold pyHashByItsType|skip
 first|refine wpAny_bind (wpAny_cRoomFor_or (.inr (by omega)) ?_)|skip
 refine wpAny_bind (wpAny_specialOf hT F.slot_tuple_hash.lookup ?_)
 show wpAny _ _ (if (some (Value.builtin "tuple.__hash__")==some Value.none)=true then _ else _) Q E s
 rw[if_neg (by rw[beq_builtin_none];exact Bool.false_ne_true)]
 refine wpAny_bind (wpAny_specialOf hT F.slot_tuple_hash.lookup ?_)
 show wpAny _ _ (callSpecialIfBoundUnlessNone? (.ref a) "__hash__" _ >>= _) Q E s
 refine wpAny_bind (wpAny_callSpecialIfBoundUnlessNone?_slot hT F.slot_tuple_hash (wpAny_call_entry F.slot_tuple_hash hT F.entry_tuple_hash ?_ (F.args_tuple_hash_1 _)))
 show wpAny _ _ (Builtin.Tuple.tupleItemsOf (.ref a) >>= _) _ _ s
 refine wpAny_bind (wpAny_tupleItemsOf ho hd ?_)
 refine wpAny_bind ?_
 rw[←Array.forIn_toList]
 refine wpAny_forIn_list _
  (fun rest (b:Array Int) s'=>∃done left,kss=done++left∧Paired (fun v ks=>∃b,v=Value.ref b∧bE s.heap ks b) rest left∧b.toList=done.map fN∧s'={ s with toks:=s.toks+(done.map fun ks=>ks.length+1).sum })
  _ ?_ ?_ _ _ ⟨[],kss,rfl,hi,rfl,rfl⟩
 ·rintro x rest b s' ⟨done,left,rfl,hl,hb,rfl⟩
  cases hl with
  | @cons _ ks _ left' h1 hl'=>
   obtain⟨c,rfl,h1⟩:=h1
   refine wpAny_bind (ni (A:=A.in1) hu h1 ?_)
   first
    | exact wpAny_pure ⟨done++[ks],left',by simp,hl',by simp[hb],by simp[Nat.add_assoc]⟩
    | exact wpAny_bind (wpAny_pure (wpAny_pure ⟨done++[ks],left',by simp,hl',by simp[hb],by simp[Nat.add_assoc]⟩))
 ·rintro b s' ⟨done,left,rfl,hl,hb,rfl⟩
  cases hl
  rw[List.append_nil] at h
  show wpAny _ _ (retInt (Builtin.Tuple.tupleHashOf b.toList)) _ _ _
  rw[hb]
  refine wpAny_ret_mkInt ?_
  show wpAny _ _ (if (decide (-(2:Int) ^ 63≤Builtin.Tuple.tupleHashOf (done.map fN))&&decide (Builtin.Tuple.tupleHashOf (done.map fN)<2 ^ 63))=true then _ else _) Q E _
  unfold ib reduceHash kL at h
  by_cases hr:(decide (-(2:Int) ^ 63≤Builtin.Tuple.tupleHashOf (done.map fN))&&decide (Builtin.Tuple.tupleHashOf (done.map fN)<2 ^ 63))=true
  ·rw[if_pos hr]
   rw[if_pos hr] at h
   exact wpAny_pure (by simpa [Nat.add_assoc] using h)
  ·rw[if_neg hr]
   rw[if_neg hr] at h
   exact wpAny_bind (wpAny_rule (wpAny_pure (by simpa [Nat.add_assoc] using h)))
theorem pB (n:Nat) {a:Addr}{items:Array Value}{Q:Bool->Shared->Prop}(tp:s.heap.IsTuple a items) (hv:∀v∈items.toList,∀(Q:Bool->Shared->Prop),Q true s->wpAny (model prog w) A (eqIsQuiet n v) Q E s) (h:Q true s) :
  wpAny (model prog w) A (eqIsQuiet (n+1) (.ref a)) Q E s:=by
 have hT:=fb tp
 obtain⟨o,ho,hcl,n',hd⟩:=tp
 unfold eqIsQuiet
 refine wpAny_bind (wpAny_specialOf hT F.slot_tuple_eq.lookup ?_)
 show wpAny _ _ (isInstance (.ref a) (.type "tuple") >>= _) _ _ s
 refine wpAny_bind (wpAny_isInstance hT isSubtype_tuple_tuple ?_)
 simp only[Bool.not_true,Bool.false_eq_true,if_false]
 refine wpAny_bind (wpAny_seqItems ho hd ?_)
 refine wpAny_bind ?_
 show wpAny _ _ (forIn items _ _) _ _ s
 rw[←Array.forIn_toList]
 refine wpAny_forIn_list _ (fun rest r s'=>r.1=none∧s'=s∧∀v∈rest,v∈items.toList) _ ?_ ?_ _ _ ⟨rfl,rfl,fun v hv=>hv⟩
 ·rintro v rest r s' ⟨hr,rfl,hall⟩
  refine wpAny_bind (hv v (hall v List.mem_cons_self) _ ?_)
  simp only[Bool.not_true,Bool.false_eq_true,if_false]
  exact wpAny_pure ⟨rfl,rfl,fun u hu'=>hall u (List.mem_cons_of_mem _ hu')⟩
 ·rintro⟨r1,r2⟩ s' ⟨hr,rfl,_⟩
  simp only at hr
  subst hr
  exact wpAny_pure h
theorem eO {α β:Type}{F:α->β->Prop}:∀{l₁:List α}{l₂:List β},Paired F l₁ l₂->∀a∈l₁,∃b∈l₂,F a b
 | _,_,.nil,a,h=>by cases h
 | _,_,.cons r t,a,h=>by
  rcases List.mem_cons.mp h with rfl|h
  ·exact⟨_,List.mem_cons_self,r⟩
  ·obtain⟨b,m,q⟩:=eO t a h
   exact⟨b,List.mem_cons_of_mem _ m,q⟩
theorem pC (n:Nat) {ks:List Int}{a:Addr}{Q:Bool->Shared->Prop}(hk:bE s.heap ks a) (h:Q true s):wpAny (model prog w) A (eqIsQuiet (n+1) (.ref a)) Q E s:=by
 obtain⟨i,t,r⟩:=hk
 refine pB n t (fun v hv Q' q=>?_) h
 obtain⟨k,_,t',e⟩:=eO r v hv
 subst e
 rw[eqIsQuiet_byValue n rfl]
 exact wpAny_pure q
theorem u7 (n:Nat) {kss:List (List Int)}{a:Addr}{Q:Bool->Shared->Prop}(hk:cN s.heap kss a) (h:Q true s):wpAny (model prog w) A (eqIsQuiet (n+2) (.ref a)) Q E s:=by
 obtain⟨i,t,r⟩:=hk
 refine pB (n+1) t (fun v hv Q' q=>?_) h
 obtain⟨ks,_,b,e,g⟩:=eO r v hv
 subst e
 exact pC n g q
def gx (prog:Program) (w:World):HeapKind prog w (List (List Int)) where
 is:=cN
 hash:=ib
 draws:=kL
 room:=fun A=>A.units+1<cLine
 inj:=fun p q=>p.inj q
 keeps:=fun p ho hd hs=>p.keeps ho hd hs
 pyHash:=fun hu hk h=>tI hu hk h
 eqBool:=fun hu hx hy h=>AG hu hx hy _ _ _ _ h
 quiet:=fun hk h=>u7 6 hk h
end
end L2
namespace L2
open PySem PySem.Spec PyProof.Rows
theorem lE {α β γ:Type}{F:α->β->Prop}{G:α->γ->Prop}{R:β->γ->Prop}(h:∀a b c,F a b->G a c->R b c):∀{l:List α}{m:List β}{n:List γ},Paired F l m->Paired G l n->Paired R m n
 | _,_,_,.nil,.nil=>.nil
 | _,_,_,.cons r t,.cons r' t'=>.cons (h _ _ _ r r') (lE h t t')
abbrev av:Dk (List Int):=AC tG
abbrev ce:Dk (List (List Int)):=AC av
section
variable {X:Cx}{aa:List (Addr×Obj)}{σ:St}{H:Hp}{s:Shared}
theorem oy {a:Addr}{ks:List Int}(I:Inv X aa σ H s) (h:av.rep X.K H (.ref a) ks):bE s.heap ks a:=by
 obtain⟨p,xs,e,q,r⟩:=h
 cases e
 obtain⟨its,v,t,_⟩:=I.tuple q
 refine⟨its.toArray,t,?_⟩
 exact lE (F:=aF) (G:=tG.rep X.K H) (fun x u k h1 h2=>by
  have h2:x=V.int k:=h2
  subst h2
  exact h1) v r
theorem jm {a:Addr}{kss:List (List Int)}(I:Inv X aa σ H s) (h:ce.rep X.K H (.ref a) kss):cN s.heap kss a:=by
 obtain⟨p,xs,e,q,r⟩:=h
 cases e
 obtain⟨its,v,t,_⟩:=I.tuple q
 refine⟨its.toArray,t,?_⟩
 exact lE (F:=aF) (G:=av.rep X.K H) (fun x u k h1 h2=>by
  obtain⟨p,xs,e,q,r⟩:=id h2
  subst e
  cases h1
  exact⟨p,rfl,oy I h2⟩) v r
end
abbrev NL3:=List (List (List Int)×Addr×Int)
def PL (L:NL3) (xs:List (List (List Int)×Addr×Value)):Prop:=Paired (fun(p:List (List Int)×Addr×Int) (q:List (List Int)×Addr×Value)=>p.1=q.1∧p.2.1=q.2.1∧∃t,q.2.2=Value.int p.2.2 t) L xs
def eP (d:Addr) (L:NL3):HO:=.ext fun h=>(d==sysModules)=false∧∃xs,PL L xs∧∃o es ep,h.get? d=some o∧o.ExactDict∧o.data=.dict es ep∧es.toList=xs.map (fun x=>(⟨ib x.1,.ref x.2.1,x.2.2⟩:DictEntry))∧(xs.map (·.1)).Nodup
theorem rM {P:Program}{w:World}{H:Hp}{h:Heap}{d:Addr}{L:NL3}(x:(d==sysModules)=false∧∃xs,PL L xs∧∃o es ep,h.get? d=some o∧o.ExactDict∧o.data=.dict es ep∧es.toList=xs.map (fun x=>(⟨ib x.1,.ref x.2.1,x.2.2⟩:DictEntry))∧(xs.map (·.1)).Nodup) :
  bc P w H h d (eP d L):=by
 refine⟨x,?_,fun h1 h2 ⟨y,xs,p,o,es,ep,e,r⟩ k=>⟨y,xs,p,o,es,ep,k _ e,r⟩⟩
 obtain⟨_,_,_,o,_,_,e,_⟩:=x
 exact⟨o,e⟩
def dZ (L:NL3) (k:List (List Int)):Option Int:=(L.find? fun e=>decide (e.1=k)).map (·.2.2)
theorem oz {k:List (List Int)}:∀{L:NL3}{xs:List (List (List Int)×Addr×Value)},PL L xs->(dZ L k=none∧atKey xs k=none)∨∃n a t,dZ L k=some n∧atKey xs k=some (a,.int n t)
 | _,_,.nil=>.inl ⟨rfl,rfl⟩
 | e::L,x::xs,.cons r t=>by
  obtain⟨k1,a1,n1⟩:=e
  obtain⟨k2,a2,v2⟩:=x
  obtain⟨h1,h2,tk,h3⟩:=r
  dsimp only at h1 h2 h3
  subst h1 h2 h3
  by_cases z:k1=k
  ·subst z
   exact .inr ⟨n1,a1,tk,by simp[dZ],by simp[atKey]⟩
  ·have ih:=oz (k:=k) t
   have e1:dZ ((k1,a1,n1)::L) k=dZ L k:=by simp[dZ,z]
   have e2:atKey ((k1,a1,Value.int n1 tk)::xs) k=atKey xs k:=by simp[atKey,z]
   rw[e1,e2]
   exact ih
def iJ (K:W.Frag) (H:Hp) (L:NL3):Prop:=∀e∈L,ce.rep K H (.ref e.2.1) e.1
section
variable {X:Cx}{aa:List (Addr×Obj)}{σ:St}{H:Hp}{s:Shared}{d b:Addr}{L:NL3}{k:List (List Int)}
theorem pD (I:Inv X aa σ H s) (e:H d=some (eP d L)) (hk:iJ X.K H L):(d==sysModules)=false∧∃xs,PL L xs∧s.heap.DictOfH (gx X.prog X.w) d xs:=by
 obtain⟨⟨y,xs,p,o,es,ep,e1,e2,e3,e4,e5⟩,_⟩:=(show bc X.prog X.w H s.heap d (eP d L) from I.hok d _ e)
 refine⟨y,xs,p,o,es,ep,e1,e2,e3,e4,fun x hx=>?_,e5⟩
 have all:∀{L:NL3}{xs:List (List (List Int)×Addr×Value)},iJ X.K H L->PL L xs->∀x∈xs,cN s.heap x.1 x.2.1:=by
  intro L xs hk p
  induction p with
  | nil=>intro x hx;cases hx
  | @cons e x L xs r t ih=>
   intro z hz
   rcases List.mem_cons.mp hz with rfl|hz
   ·have:=jm I (hk e List.mem_cons_self)
    rw[r.1,r.2.1] at this
    exact this
   ·exact ih (fun e' he'=>hk e' (List.mem_cons_of_mem _ he')) z hz
 exact all hk p x hx
def zc (K:W.Frag):R2:=fun x y H Q=>∃d L b k,y=.ref d∧x=.ref b∧H d=some (eP d L)∧iJ K H L∧ce.rep K H (.ref b) k∧Q (.bl (!(dZ L k).isSome)) H
theorem u8 (hu:X.A.units+2<cLine):OpR X (compareOp .NotIn) (zc X.K):=by
 intro aa s σ H x y v u Q I rx ry h
 obtain⟨d,L,b,k,rfl,rfl,e,hk,hb,q⟩:=h
 cases rx
 cases ry
 obtain⟨hd,xs,p,dd⟩:=pD I e hk
 refine wpAny_notIn_heap (knd:=gx X.prog X.w) (by show X.A.units+1+1<cLine;omega) (jm I hb) hd dd ⟨.bl (!(dZ L k).isSome),H,I.tok _,?_,q⟩
 show _=Value.bool _
 rcases oz (k:=k) p with⟨z1,z2⟩|⟨n,a,t,z1,z2⟩
 ·rw[z1,z2];rfl
 ·rw[z1,z2];rfl
def DD (K:W.Frag) (td ty:TE):TE:=fun σ H Q=>td σ H fun x H1=>ty σ H1 fun y H2=>∃d L b k n,x=.ref d∧y=.ref b∧H2 d=some (eP d L)∧iJ K H2 L∧ce.rep K H2 (.ref b) k∧dZ L k=some n∧Q (.int n) H2
theorem zd {o i:Expr}{pos:Pos}{td ty:TE}(hu:X.A.units+2<cLine) (ho:PE X o td) (hi:PE X i ty) (hs:wP i):PE X (.Subscript o i pos) (DD X.K td ty):=by
 intro aa s σ H Q I h
 refine rK PySem.F.slot_dict_getitem.lookup hs (thn (ho aa s σ H _ I h) fun u s1 ⟨x,H1,I1,rx,q1⟩=>thn (hi aa s1 σ H1 _ I1 q1) fun iv s2 ⟨y,H2,I2,ry,d,L,b,k,n,ex,ey,e,hk,hb,hn,q2⟩=>?_)
 subst ex ey
 cases rx
 cases ry
 obtain⟨hd,xs,p,dd⟩:=pD I2 e hk
 refine⟨dd.typeIs,?_⟩
 rcases oz (k:=k) p with⟨z1,z2⟩|⟨n',a,t,z1,z2⟩
 ·rw[z1] at hn;cases hn
 ·rw[z1] at hn
  cases hn
  exact wpAny_getItem_heap (knd:=gx X.prog X.w) (by show X.A.units+1+1<cLine;omega) (jm I2 hb) dd z2 ⟨.int n,H2,I2.tok _,⟨t,rfl⟩,q2⟩
def DE (K:W.Frag) (td ty tv:TE):TS:=fun D σ H=>tv σ H fun v H1=>td σ H1 fun x H2=>ty σ H2 fun y H3=>∃d L b k n,v=.int n∧x=.ref d∧y=.ref b∧H3 d=some (eP d L)∧iJ K H3 L∧ce.rep K H3 (.ref b) k∧dZ L k=none∧L.length<sizeLine∧
 D.nx σ (upd H3 d (eP d (L++[(k,b,n)])))
theorem ze {o i value:Expr}{pos pos':Pos}{td ty tv:TE}(hu:X.A.units+2<cLine) (ho:PE X o td) (hi:PE X i ty) (hv:PE X value tv) (hs:swapsWith value (some (.Subscript o i pos')) pos.line X.env=pure false) :
  PS X (.Assign [.Subscript o i pos'] value pos) (DE X.K td ty tv):=by
 intro aa s σ H D I h
 refine wpAny_Assign_Subscript (thn (hv aa s σ H _ I h) fun r s1 ⟨v,H1,I1,rv,q1⟩=>thn (ho aa s1 σ H1 _ I1 q1) fun u s2 ⟨x,H2,I2,rx,q2⟩=>thn (hi aa s2 σ H2 _ I2 q2) fun iv s3 ⟨y,H3,I3,ry,d,L,b,k,n,ev,ex,ey,e,hk,hb,hn,hl,q3⟩=>?_) hs
 subst ev ex ey
 obtain⟨t,rfl⟩:=rv
 cases rx
 cases ry
 obtain⟨hd,xs,p,dd⟩:=pD I3 e hk
 have z2:atKey xs k=none:=by
  rcases oz (k:=k) p with⟨z1,z2⟩|⟨n',a,t',z1,z2⟩
  ·exact z2
  ·rw[z1] at hn;cases hn
 refine wpAny_setItem_heap (knd:=gx X.prog X.w) (hsz:=by rw[←Paired.length p];omega) (by show X.A.units+1+1<cLine;omega) (jm I3 hb) dd fun h' dd' hsb=>⟨σ,_,?_,q3⟩
 rw[storedH_new z2] at dd'
 obtain⟨o',es,ep,e1,e2,e3,e4,_,e5⟩:=dd'
 refine I3.write (x:=d) (e:=d) (by rw[e];exact True.intro) (.inl rfl) (fun b q hb z=>(hsb.2 b hb).trans z) ⟨_,e1⟩ (rM ⟨hd,_,bL p (.cons ⟨rfl,rfl,t,rfl⟩ .nil),o',es,ep,e1,e2,e3,e4,e5⟩)
theorem wR {pos:Pos}:PE X (.Dict [] [] pos) (fun _ H Q=>∀p,H p=none->Q (.ref p) (upd H p (eP p []))):=fun aa s σ H Q I h=>
 wpAny_Dict_empty ⟨.ref s.heap.objs.size,_,I.laid (a:=s.heap.objs.size) (o:=eP s.heap.objs.size []) (t':=s.toks) (fun _ _ q=>Heap.get?_push_of_some _ q) (Nat.le_refl _)
  (rM ⟨beq_eq_false_iff_ne.mpr (Ne.symm (Nat.ne_of_lt I.big)),[],.nil,_,#[],0,Heap.get?_push_size _ rfl,⟨rfl,rfl,rfl⟩,rfl,rfl,List.nodup_nil⟩),rfl,h _ (I.hok.fresh (Nat.le_refl _))⟩
end
end L2
namespace L2
open PySem PySem.Spec PyProof.Rows
section
variable {X:Cx}{aa:List (Addr×Obj)}{σ:St}{H:Hp}{s:Shared}{a:Addr}{kvs:List (Key×V)}
theorem Inv.freeze (I:Inv X aa σ H s) (e:H a=some (.dK kvs)):∃ob,(∃es ep,ob.data=.dict es ep)∧Inv X aa σ (upd H a (.frz ob (.dK kvs))) s:=by
 obtain⟨z,hd,vs,rel,dd⟩:=lB I.hok e
 obtain⟨o,es,ep,ho,hc,hdat,r⟩:=id dd
 refine⟨o,⟨es,ep,hdat⟩,?_⟩
 have:=I.write (x:=a) (e:=a) (h':=s.heap) (t':=s.toks) (o:=.frz o (.dK kvs)) (by rw[e];exact True.intro) (.inl rfl) (fun b u _ q=>q) ⟨o,ho⟩ ⟨ho,z,hd,vs,rel,dd⟩
 exact this
theorem pE {ob:Obj}{es:Array DictEntry}{ep:Nat}(I:Inv X aa σ H s) (e:H a=some (.frz ob (.dK kvs))) (hob:ob.data=.dict es ep):(a==sysModules)=false∧∃vs,KV kvs vs∧s.heap.DictAt (bh X.prog X.w) a vs ep:=by
 obtain⟨ho,z,hd,vs,rel,o',es',ep',ho',hc,hdat,r⟩:=(show bc X.prog X.w H s.heap a (.frz ob (.dK kvs)) from I.hok a _ e)
 rw[ho] at ho'
 cases ho'
 rw[hob] at hdat
 cases hdat
 exact⟨hd,vs,rel,ob,es,ho,hc,hob,r⟩
end
def Itd (a:Addr) (ob:Obj) (kvs:List (Key×V)):It:=
 ⟨fun i H=>H a=some (.frz ob (.dK kvs))∧i<kvs.length,fun i H x H'=>H'=H∧∃kv,kvs[i]?=some kv∧x=kV kv.1,fun i H=>H a=some (.frz ob (.dK kvs))∧kvs.length≤i⟩
theorem rN {P:Program}{w:World}{k:Key}{u:Value}(h:(bh P w).is k u=true):aF (kV k) u:=by
 rw[sJ] at h
 rcases bU h with⟨i,t,rfl,rfl⟩|⟨x,t,rfl,rfl⟩
 ·exact⟨t,rfl⟩
 ·exact⟨t,rfl⟩
theorem u9 {P:Program}{w:World}{K:W.Frag}{tg:Expr}(a it:Addr) (ob:Obj) (kvs:List (Key×V)) {es:Array DictEntry}{ep:Nat}(hob:ob.data=.dict es ep) :
  Turn P w K tg (Itd a ob kvs) [it] it (fun i h=>h.IsKeyIter it a i kvs.length ep) where
 mem:=by simp
 obj:=fun i h st b hb=>by
  have e:b=it:=by simpa using hb
  subst e
  obtain⟨o,e,c,d⟩:=st
  exact⟨o,e,fun v z=>by rw[d] at z;cases z⟩
 keep:=fun i h h' st k=>st.at fun o e=>k it (by simp) o e
 item:=by
  intro X hP hw hK hc i aa s σ H E I hf st hg
  subst hP hw hK
  obtain⟨e,hi⟩:=hg
  obtain⟨hd,vs,rel,dd⟩:=pE I e hob
  obtain⟨f0,f1,f2,f3,f4,f5⟩:=hf it (by simp)
  have hx:kvs[i]?=some kvs[i]:=List.getElem?_eq_getElem hi
  obtain⟨⟨k,v⟩,hv,hk,_⟩:=cw (F:=fun(p:Key×V) (q:Key×Value)=>p.1=q.1∧aF p.2 q.2) rel hx
  rw[rel.length] at st
  refine wpAny_pyNext_dict_item (knd:=bh X.prog X.w) st dd hv fun key h' hkey st' sb=>?_
  have I1:Inv X aa σ H { s with heap:=h' }:=I.turned (t':=s.toks) (fun b o hb e=>(sb.2 b hb).trans e) f0 f1 f3 f4 f5
  obtain⟨o,e',c,d⟩:=id st'
  rw[←rel.length] at st'
  exact⟨key,rfl,oo (s:={ s with heap:=h' }) e' c d (by decide) ⟨kV k,H,I1,rN hkey,⟨rfl,kvs[i],hx,by rw[hk]⟩,st',fun b hb=>(hf b hb).1⟩⟩
 done:=by
  intro X hP hw hK hc i aa s σ H E I hf st hg
  subst hP hw hK
  obtain⟨e,hi⟩:=hg
  obtain⟨hd,vs,rel,dd⟩:=pE I e hob
  obtain⟨f0,f1,f2,f3,f4,f5⟩:=hf it (by simp)
  have hl:=rel.length
  rw[rel.length] at st
  exact wpAny_pyNext_dict_end (knd:=bh X.prog X.w) (I.ok.hd hc) st dd (List.getElem?_eq_none (by omega)) fun h' eb=>⟨rfl,I.turned (t':=s.toks) (fun b o hb e=>eb b o hb e) f0 f1 f3 f4 f5⟩
 self:=fun _ _ _ _ _ st h=>wpAny_pyIter_keyiter st h
def DF (tl:TE):TI:=fun σ H R=>tl σ H fun x H1=>∃a kvs,x=.ref a∧H1 a=some (.dK kvs)∧∀ob,R (Itd a ob kvs) (upd H1 a (.frz ob (.dK kvs)))
section
variable {X:Cx}{tg:Expr}
theorem zh {l:Expr}{tl:TE}(hl:PE X l tl):PI X tg l (DF tl):=by
 intro aa s σ H R I h
 refine thn (hl aa s σ H _ I h) fun v s1 ⟨x,H1,I1,r1,a,kvs,ex,ea,q⟩=>?_
 subst ex
 cases r1
 obtain⟨ob,⟨es,ep,hob⟩,I2⟩:=I1.freeze ea
 obtain⟨hd,vs,rel,dd⟩:=pE I2 ag hob
 refine wpAny_pyIter_dict (knd:=bh X.prog X.w) hd dd ?_
 refine⟨s1.heap.objs.size,[s1.heap.objs.size],_,_,_,rfl,I2.kept (t':=s1.toks) fun b o e=>Heap.get?_push_of_some _ e,u9 a _ ob kvs hob,⟨_,Heap.get?_push_size _ rfl,rfl,by rw[rel.length];rfl⟩,fun b hb=>?_,q ob⟩
 have e:b=s1.heap.objs.size:=by simpa using hb
 subst e
 exact I2.fpOk (Nat.le_refl _) (I2.hok.fresh (Nat.le_refl _))
end
theorem va {a:Addr}{ob:Obj}{kvs:List (Key×V)}{tt:TT}{te:TE}{σ:St}{H:Hp}{Q:VK}(Pv:Nat->List V->Hp->Prop) (h0:Pv 0 [] H) (hl:∀i ys H,i≤kvs.length->Pv i ys H->H a=some (.frz ob (.dK kvs))∧ys.length≤i) (hz:kvs.length≤sizeLine)
  (hs:∀i kv ys H,kvs[i]?=some kv->Pv i ys H->tt (some (kV kv.1)::σ) H fun b H4=>if b=true then te (some (kV kv.1)::σ) H4 fun y H5=>Pv (i+1) (ys++[y]) H5 else Pv (i+1) ys H4)
  (hd:∀ys H p,Pv kvs.length ys H->H p=none->Q (.ref p) (upd H p (.lst ys))):lv (Itd a ob kvs) σ tt te Q H:=by
 refine⟨fun i m ys H=>m=kvs.length-i∧i≤kvs.length∧Pv i ys H,⟨kvs.length,by simp,Nat.zero_le _,h0⟩,?_⟩
 rintro i m ys H2 ⟨rfl,hi,p⟩
 obtain⟨q,hn⟩:=hl i ys H2 hi p
 by_cases hlt:i<kvs.length
 ·refine .inr ⟨⟨q,hlt⟩,by omega,Pv (i+1),fun zs H' p'=>⟨kvs.length-(i+1),by omega,rfl,hlt,p'⟩,fun x H3 y=>?_⟩
  obtain⟨e,kv,y,ex⟩:=y
  subst e ex
  exact hs i kv ys _ y p
 ·have e:i=kvs.length:=by omega
  subst e
  exact .inl ⟨⟨q,Nat.le_refl _⟩,by omega,fun b hb=>hd ys H2 b p hb⟩
section
variable {X:Cx}
theorem mF (hc:X.calm=true):cS X (.type "list") (fun xs H Q=>∃p kvs,xs=[.ref p]∧H p=some (.dK kvs)∧∀l,H l=none->Q (.ref l) (upd H l (.lst (kvs.map fun kv=>kV kv.1)))):=by
 intro aa s σ H xs us Q I r h
 obtain⟨p,kvs,rfl,hp,q⟩:=h
 obtain⟨u,rfl,ru⟩:=eE r
 cases ru
 obtain⟨z,hd,vs,rel,dd⟩:=lB I.hok hp
 obtain⟨ep,da⟩:=dd.dictAt
 refine W.kdl_call (W.kdl_dict (knd:=bh X.prog X.w) hd) (I.ok.hd hc) da (by rw[←rel.length];exact z) fun h' tk acc' c' hk hS hacc=>?_
 refine⟨.ref s.heap.objs.size,_,I.laid (o:=.lst (kvs.map fun kv=>kV kv.1)) hk (Nat.le_refl _) ⟨by rw[List.length_map];exact z,acc'.toList,c',?_,by simpa using hS⟩,rfl,q _ (I.hok.fresh (Nat.le_refl _))⟩
 refine kr (by have h1:=hacc.1;have h2:=rel.length;simp;omega) fun i x u e1 e2=>?_
 have e2':acc'[i]?=some u:=by simpa using e2
 obtain⟨k,v,hv,hk'⟩:=hacc.2 i u e2'
 obtain⟨kv,e3,e4,_⟩:=dN (F:=fun(p:Key×V) (q:Key×Value)=>p.1=q.1∧aF p.2 q.2) rel hv
 rw[List.getElem?_map,e3] at e1
 cases e1
 show aF (kV kv.1) u
 rw[show kv.1=k from e4]
 exact rN hk'
def DG:V->List V->Hp->VK->Prop:=fun o vs H Q=>∃p kvs k v,o=.ref p∧vs=[kV k,v]∧H p=some (.dK kvs)∧kvs.length<sizeLine∧(∀y,cf kvs k=some y->Q y H)∧(cf kvs k=none->Q v (upd H p (.dK (cG kvs k v))))
theorem n6:MtR X "dict.setdefault" DG:=by
 intro aa s σ H o vs v us Q I ro rv h
 obtain⟨p,kvs,k,y,rfl,rfl,hp,hl,q1,q2⟩:=h
 cases ro
 obtain⟨u1,u2,rfl,r1,r2⟩:=rv.two
 obtain⟨z,hd,ws,rel,dd⟩:=lB I.hok hp
 refine call_meetsIn PySem.F.slot_dict_setdefault dd.typeIs PySem.F.entry_dict_setdefault (PySem.F.args_dict_setdefault_3 _ _ _) (kt_meets_setdefault (bh X.prog X.w) p (jT r1) hd u2) ⟨ws,dd,by rw[←rel.length];exact z,fun w' hw=>?_,fun hn h' dd' hs=>?_⟩
 ·have hv:=rel.val k
  rw[hw] at hv
  cases e:cf kvs k with
  | none=>rw[e] at hv;exact hv.elim
  | some y'=>
   rw[e] at hv
   exact⟨y',H,I.tok _,hv,q1 y' e⟩
 ·have hv:=rel.val k
  rw[hn] at hv
  have e:cf kvs k=none:=by
   cases e:cf kvs k with
   | none=>rfl
   | some y'=>rw[e] at hv;exact hv.elim
  have he:∃q,h'.get? p=some q:=let ⟨q,_,_,hq,_⟩:=dd';⟨q,hq⟩
  exact⟨y,_,jU I (by rw[hp];exact True.intro) hs he (pi (by have:=fK kvs k y;omega) hd (rel.put k r2) dd'),r2,q2 e⟩
end
end L2
namespace L2
open PySem PySem.Spec PyProof.Rows
section
variable {κ:PyProof.Rows.KeyKind}{xs ys:Array Keyed}{x n:Nat}
theorem rO:SortedToK κ xs 1:=fun i j h1 h2=>by
 obtain rfl:i=0:=by omega
 obtain rfl:j=0:=by omega
 exact KeyOrd.kle_refl _
theorem zi (h:SortedToK κ xs x) (hx:1≤x) (hl:κ.kle (KK κ xs (x-1)) (KK κ xs x)):SortedToK κ xs (x+1):=fun i j h1 h2=>by
 rcases Nat.lt_or_ge j x with z|z
 ·exact h i j h1 z
 obtain rfl:j=x:=by omega
 rcases Nat.lt_or_ge i j with y|y
 ·exact KeyOrd.kle_trans (h i (j-1) (by omega) (by omega)) hl
 obtain rfl:i=j:=by omega
 exact KeyOrd.kle_refl _
theorem jV (h:NonIncK κ xs x) (hx:1≤x) (hl:κ.kle (KK κ xs x) (KK κ xs (x-1))):NonIncK κ xs (x+1):=fun i j h1 h2=>by
 rcases Nat.lt_or_ge j x with z|z
 ·exact h i j h1 z
 obtain rfl:j=x:=by omega
 rcases Nat.lt_or_ge i j with y|y
 ·exact KeyOrd.kle_trans hl (h i (j-1) (by omega) (by omega))
 obtain rfl:i=j:=by omega
 exact KeyOrd.kle_refl _
theorem pF (e:∀k,KK κ ys k=KK κ xs k) (h:NonIncK κ xs n):NonIncK κ ys n:=fun i j h1 h2=>by
 have:=h i j h1 h2
 rw[←e,←e] at this
 exact this
theorem zj:NonIncK κ xs 1:=fun i j h1 h2=>rO j i (by omega) (by omega)
theorem wS (h:NonIncK κ xs n) (hn:n≤xs.size):SortedToK κ (mirror xs 0 n ((n-0) / 2)) n:=fun i j h1 h2=>by
 rw[KK_mirror hn,KK_mirror hn,if_pos ⟨by omega,by omega⟩,if_pos ⟨by omega,by omega⟩]
 exact h _ _ (by omega) (by omega)
end
structure Sta (kd:SortKind) (a₀:Array Keyed) (st:SortSt):Prop where
 perm:(arrOf st).Perm a₀
 kind:kindOf st=kd
 failed:failedOf st=none
 pend:pendingOf st=#[]
theorem Sta.sz {kd:SortKind}{a₀:Array Keyed}{st:SortSt}(h:Sta kd a₀ st):(arrOf st).size=a₀.size:=h.perm.size_eq
theorem Sta.arr {kd:SortKind}{a₀ xs:Array Keyed}{st:SortSt}(h:Sta kd a₀ st) (p:xs.Perm (arrOf st)):Sta kd a₀ (setArr st xs):=⟨p.trans h.perm,h.kind,h.failed,h.pend⟩
section
variable {prog:Program}{w:World}{A:Around}{E:Value->Shared->Prop}{s:Shared}{a₀:Array Keyed}{κ:PyProof.Rows.KeyKind}{kd:SortKind}
def Cmp (prog:Program) (w:World) (A:Around) (E:Value->Shared->Prop) (s:Shared) (κ:PyProof.Rows.KeyKind) (kd:SortKind) (a₀:Array Keyed):Prop:=
 ∀(st:SortSt) (i j:Nat) (Q:Option Bool->SortSt->Prop),Sta kd a₀ st->i<a₀.size->j<a₀.size->Q (some (κ.blt (KK κ (arrOf st) i) (KK κ (arrOf st) j))) st->wpS (model prog w) A E s (ltAt' i j) Q st
theorem x8 (C:Cmp prog w A E s κ kd a₀) {st:SortSt}{a m:Nat}{Q:AscSt->SortSt->Prop}(hm:m≤a₀.size) (ha:1≤a) (ham:a≤m) (B:Sta kd a₀ st) (hs:SortedToK κ (arrOf st) a)
  (h:∀n,a≤n->n≤m->SortedToK κ (arrOf st) n->(n=m∨κ.klt (KK κ (arrOf st) n) (KK κ (arrOf st) (n-1)))->Q (none,n) st):wpS (model prog w) A E s (ascLoop a m) Q st:=by
 refine wpS_forRange (fun x c st'=>st'=st∧c=(none,x)∧SortedToK κ (arrOf st) x) (fun x c st' h1 h2 ⟨e1,e2,r⟩=>?_) (fun c st' ⟨e1,e2,r⟩=>?_) ⟨rfl,rfl,hs⟩
 ·subst e1 e2
  refine wpS_bind (C _ _ _ _ B (by omega) (by omega) ?_)
  cases e:κ.blt (KK κ (arrOf st') x) (KK κ (arrOf st') (x-1)) with
  | true=>exact wpS_pure (h x h1 (by omega) r (.inr e))
  | false=>exact wpS_pure ⟨rfl,rfl,zi r (by omega) e⟩
 ·subst e1 e2
  have z:max a m=m:=by omega
  rw[z] at r ⊢
  exact h m ham (Nat.le_refl _) r (.inl rfl)
theorem vb (C:Cmp prog w A E s κ kd a₀) {st:SortSt}{n m:Nat}{Q:Option Nat->SortSt->Prop}(hm:m≤a₀.size) (h1:1≤n) (hn:n≤m) (B:Sta kd a₀ st) (hs:NonIncK κ (arrOf st) n)
  (h:∀k st',Sta kd a₀ st'->1≤k->k≤m->SortedToK κ (arrOf st') k->Q (some k) st'):wpS (model prog w) A E s (tail3 n m) Q st:=by
 have B':=B.arr (mirror_perm (arrOf st) 0 n ((n-0) / 2))
 exact wpS_bind (wpS_reverse (wpS_bind (x8 C hm h1 hn B' (wS hs (by rw[B.sz];omega)) fun k k1 k2 r _=>wpS_pure (h k _ B' (by omega) k2 r))))
theorem AH (C:Cmp prog w A E s κ kd a₀) {st:SortSt}{n m:Nat}{Q:DescSt->SortSt->Prop}(hm:m≤a₀.size) (h1:1≤n) (hn:n≤m) (B:Sta kd a₀ st) (hs:NonIncK κ (arrOf st) n)
  (h:∀k q st',Sta kd a₀ st'->n≤k->k≤m->NonIncK κ (arrOf st') k->q+1≤k->(∀i,k-(q+1)≤i->i<k->KK κ (arrOf st') i=KK κ (arrOf st') (k-1))->Q (none,k,q) st') :
  wpS (model prog w) A E s (descLoop n m) Q st:=by
 have last:∀(ys:Array Keyed) (k:Nat),∀i,k+1-(0+1)≤i->i<k+1->KK κ ys i=KK κ ys (k+1-1):=fun ys k i a b=>by
  obtain rfl:i=k:=by omega
  rfl
 refine wpS_forRange (fun x c st'=>∃q,c=(none,x,q)∧Sta kd a₀ st'∧NonIncK κ (arrOf st') x∧q+1≤x∧∀i,x-(q+1)≤i->i<x->KK κ (arrOf st') i=KK κ (arrOf st') (x-1))
  (fun x c st' a1 a2 ⟨q,e,B',r,hq,eq⟩=>?_) (fun c st' ⟨q,e,B',r,hq,eq⟩=>?_) ⟨0,rfl,B,hs,by omega,fun i a b=>by obtain rfl:i=n-1:=(by omega);rfl⟩
 ·subst e
  have sz:x≤(arrOf st').size:=by rw[B'.sz];omega
  refine wpS_bind (C _ x (x-1) _ B' (by omega) (by omega) ?_)
  cases e:κ.blt (KK κ (arrOf st') x) (KK κ (arrOf st') (x-1)) with
  | true=>
   have r':=jV r (by omega) (KeyOrd.kle_of_klt e)
   show wpS _ _ _ _ (if q > 0 then _ else _) _ _
   rcases Nat.eq_zero_or_pos q with z|z
   ·rw[if_neg (by omega)]
    exact wpS_pure ⟨0,rfl,B',r',by omega,last _ _⟩
   ·rw[if_pos z]
    exact wpS_bind (wpS_reverse (wpS_pure ⟨0,rfl,B'.arr (mirror_perm _ _ _ _),pF (KK_mirror_equal sz eq) r',by omega,last _ _⟩))
  | false=>
   refine wpS_bind (C _ (x-1) x _ B' (by omega) (by omega) ?_)
   cases e2:κ.blt (KK κ (arrOf st') (x-1)) (KK κ (arrOf st') x) with
   | true=>exact wpS_pure (h x q st' B' a1 (by omega) r hq eq)
   | false=>
    have one:KK κ (arrOf st') x=KK κ (arrOf st') (x-1):=KeyOrd.kle_antisymm e2 e
    refine wpS_pure ⟨q+1,rfl,B',jV r (by omega) e2,by omega,fun i b1 b2=>?_⟩
    rw[show x+1-1=x from rfl]
    rcases Nat.lt_or_ge i x with z|z
    ·rw[one];exact eq i (by omega) z
    ·obtain rfl:i=x:=by omega
     rfl
 ·subst e
  have z:max n m=m:=by omega
  rw[z] at r hq eq ⊢
  exact h m q st' B' hn (Nat.le_refl _) r hq eq
theorem vc (C:Cmp prog w A E s κ kd a₀) {st:SortSt}{n m:Nat}{Q:Option Nat->SortSt->Prop}(hm:m≤a₀.size) (hn:n+1≤m) (B:Sta kd a₀ st) (hs:NonIncK κ (arrOf st) (n+1))
  (h:∀k st',Sta kd a₀ st'->1≤k->k≤m->SortedToK κ (arrOf st') k->Q (some k) st'):wpS (model prog w) A E s (descPart n m) Q st:=by
 refine wpS_bind (wpS_lift (wpAny_rule ⟨rfl,wpS_bind (AH C hm (by omega) hn B hs fun k q st' B' k1 k2 r hq eq=>?_)⟩))
 show wpS _ _ _ _ (if q > 0 then _ else _) _ _
 rcases Nat.eq_zero_or_pos q with z|z
 ·rw[if_neg (by omega)]
  exact vb (n:=k) C hm (by omega) k2 B' r h
 ·rw[if_pos z]
  exact wpS_bind (wpS_reverse (vb (n:=k) C hm (by omega) k2 (B'.arr (mirror_perm _ _ _ _)) (pF (KK_mirror_equal (j:=k) (by rw[B'.sz];omega) eq) r) h))
theorem DH (C:Cmp prog w A E s κ kd a₀) {st:SortSt}{m:Nat}{Q:Option Nat->SortSt->Prop}(hm:m≤a₀.size) (h1:1≤m) (B:Sta kd a₀ st)
  (h:∀k st',Sta kd a₀ st'->1≤k->k≤m->SortedToK κ (arrOf st') k->Q (some k) st'):wpS (model prog w) A E s (countRun' 0 m) Q st:=by
 rw[countRun0_eq]
 refine wpS_bind (x8 C hm (Nat.le_refl 1) h1 B rO fun n n1 n2 r o=>?_)
 dsimp only
 rcases Nat.lt_or_ge n m with z|z
 case inr=>
  rw[if_pos (by simp;omega)]
  exact wpS_pure (h n st B n1 n2 r)
 rw[if_neg (by simp;omega)]
 have less:κ.klt (KK κ (arrOf st) n) (KK κ (arrOf st) (n-1)):=o.resolve_left (by omega)
 rcases Nat.lt_or_ge 1 n with y|y
 case inr=>
  rw[if_neg (by omega)]
  obtain rfl:n=1:=by omega
  exact vc C hm (by omega) B (jV zj (Nat.le_refl 1) (KeyOrd.kle_of_klt less)) h
 rw[if_pos y]
 refine wpS_bind (C _ _ _ _ B (by omega) (by omega) ?_)
 cases e:κ.blt (KK κ (arrOf st) 0) (KK κ (arrOf st) (n-1)) with
 | true=>exact wpS_pure (h n st B n1 n2 r)
 | false=>
  have all:∀k,0≤k->k<n->KK κ (arrOf st) k=KK κ (arrOf st) (n-1):=fun k _ hk=>
   KeyOrd.kle_antisymm (r k (n-1) (by omega) (by omega)) (KeyOrd.kle_trans (show κ.kle _ _ from e) (r 0 k (by omega) hk))
  have f1:NonIncK κ (arrOf st) n:=fun i j a b=>by
   rw[all i (by omega) (by omega),all j (by omega) b]
   exact KeyOrd.kle_refl _
  exact wpS_bind (wpS_reverse (vc C hm (by omega) (B.arr (mirror_perm _ _ _ _)) (pF (KK_mirror_equal (by rw[B.sz];omega) all) (jV f1 n1 (KeyOrd.kle_of_klt less))) h))
theorem zm {xs:Array Keyed}{k l:Nat}(h:SortedToK κ xs k) (hk:k<xs.size) (hl:l≤k) (lo:∀i,i<l->κ.kle (KK κ xs i) (KK κ xs k)) (hi:∀i,l≤i->i<k->κ.klt (KK κ xs k) (KK κ xs i)) :
  SortedToK κ (bubble xs k (k-l)) (k+1):=by
 have at_:∀i,i<k+1->KK κ (bubble xs k (k-l)) i=if i<l then KK κ xs i else if i=l then KK κ xs k else KK κ xs (i-1):=fun i hi'=>by
  rw[KK_bubble hk (by omega),show k-(k-l)=l by omega]
  rcases Nat.lt_trichotomy i l with z|z|z
  ·rw[if_neg (by omega),if_neg (by omega),if_pos z]
  ·rw[if_pos z,if_neg (by omega),if_pos z]
  ·rw[if_neg (by omega),if_pos (by omega),if_neg (by omega),if_neg (by omega)]
 intro i j h1 h2
 rw[at_ i (by omega),at_ j h2]
 rcases Nat.lt_trichotomy j l with z|z|z
 ·rw[if_pos (by omega),if_pos z]
  exact h i j h1 (by omega)
 ·rw[if_neg (show ¬j<l by omega),if_pos z]
  rcases Nat.lt_or_ge i l with y|y
  ·rw[if_pos y];exact lo i y
  ·rw[if_neg (by omega),if_pos (by omega)];exact KeyOrd.kle_refl _
 ·rw[if_neg (show ¬j<l by omega),if_neg (show ¬j=l by omega)]
  rcases Nat.lt_trichotomy i l with y|y|y
  ·rw[if_pos y];exact h i (j-1) (by omega) (by omega)
  ·rw[if_neg (by omega),if_pos y];exact KeyOrd.kle_of_klt (hi (j-1) (by omega) (by omega))
  ·rw[if_neg (by omega),if_neg (by omega)];exact h (i-1) (j-1) (by omega) (by omega)
theorem wT (C:Cmp prog w A E s κ kd a₀) {st:SortSt}{n ok:Nat}{Q:Bool->SortSt->Prop}(hn:n≤a₀.size) (ho1:1≤ok) (hok:ok≤n) (B:Sta kd a₀ st) (hs:SortedToK κ (arrOf st) ok)
  (h:∀st',Sta kd a₀ st'->SortedToK κ (arrOf st') n->Q true st'):wpS (model prog w) A E s (binarySort' 0 n ok) Q st:=by
 rw[binarySort'_eq]
 simp only[Nat.zero_add]
 have m1:max ok 1=ok:=by omega
 rw[m1]
 refine wpS_bind (wpS_mono (wpS_forRange (fun k c st'=>c=(none,())∧Sta kd a₀ st'∧SortedToK κ (arrOf st') k) (Q:=fun c st'=>c=(none,())∧Sta kd a₀ st'∧SortedToK κ (arrOf st') n)
  (fun k c st' k1 k2 ⟨e,B',r⟩=>?step) (fun c st' ⟨e,B',r⟩=>?fin) ⟨rfl,B,hs⟩) fun c st' ⟨e,B',r⟩=>?post)
 case step=>
  subst e
  refine wpS_bind (wpS_mono (wpS_forRange (fun x c st2=>st2=st'∧∃l u,c=(none,l,u)∧l≤u∧u≤k∧u-l≤k-x∧(∀i,i<l->κ.kle (KK κ (arrOf st') i) (KK κ (arrOf st') k))∧∀i,u≤i->i<k->κ.klt (KK κ (arrOf st') k) (KK κ (arrOf st') i))
   (Q:=fun c st2=>st2=st'∧∃l u,c=(none,l,u)∧l≤k∧(∀i,i<l->κ.kle (KK κ (arrOf st') i) (KK κ (arrOf st') k))∧∀i,l≤i->i<k->κ.klt (KK κ (arrOf st') k) (KK κ (arrOf st') i))
   (fun x c st2 _ x2 ⟨e1,l,u,e2,p1,p2,p3,lo,hi⟩=>?istep) (fun c st2 ⟨e1,l,u,e2,p1,p2,p3,lo,hi⟩=>?ifin) ⟨rfl,0,k,rfl,by omega,by omega,by omega,fun i z=>by omega,fun i z1 z2=>by omega⟩) fun c st2 ⟨e1,l,u,e2,p1,lo,hi⟩=>?ipost)
  case istep=>
   subst e1 e2
   dsimp only
   rcases Nat.lt_or_ge l u with z|z
   case inr=>
    rw[if_pos z]
    obtain rfl:l=u:=by omega
    exact wpS_pure ⟨rfl,l,l,rfl,p2,lo,hi⟩
   rw[if_neg (by omega)]
   have mid:l≤(l+u) / 2∧(l+u) / 2<u:=by omega
   refine wpS_bind (C _ k ((l+u) / 2) _ B' (by omega) (by omega) ?_)
   cases e:κ.blt (KK κ (arrOf st2) k) (KK κ (arrOf st2) ((l+u) / 2)) with
   | true=>exact wpS_pure ⟨rfl,l,(l+u) / 2,rfl,by omega,by omega,by omega,lo,fun i z1 z2=>KeyOrd.klt_of_klt_of_kle e (r _ _ z1 z2)⟩
   | false=>exact wpS_pure ⟨rfl,(l+u) / 2+1,u,rfl,by omega,by omega,by omega,fun i z=>KeyOrd.kle_trans (r i ((l+u) / 2) (by omega) (by omega)) e,hi⟩
  case ifin=>
   subst e1 e2
   have z:max 0 k=k:=by omega
   rw[z] at p3
   obtain rfl:l=u:=by omega
   exact⟨rfl,l,l,rfl,p2,lo,hi⟩
  case ipost=>
   subst e1 e2
   show wpS _ _ _ _ (do moveDown' k l;pure (ForInStep.yield (none,()))) _ _
   rw[moveDown'_eq]
   exact wpS_bind (wpS_modify (wpS_pure ⟨rfl,B'.arr (bubble_perm _ _ _),zm r (by rw[B'.sz];omega) p1 lo hi⟩))
 case fin=>
  subst e
  have z:max ok n=n:=by omega
  rw[z] at r
  exact⟨rfl,B',r⟩
 case post=>
  subst e
  exact wpS_pure (h st' B' r)
theorem AI (C:Cmp prog w A E s κ kd a₀) {st:SortSt}{Q:Unit->SortSt->Prop}(B:Sta kd a₀ st) (h2:2≤a₀.size) (h64:a₀.size<64)
  (h:∀st',(arrOf st').Perm a₀->failedOf st'=none->SortedToK κ (arrOf st') a₀.size->Q () st'):wpS (model prog w) A E s sortRuns' Q st:=by
 let Fin:SortSt->Prop:=fun st'=>(arrOf st').Perm a₀∧failedOf st'=none∧pendingOf st'=#[(0,a₀.size,0)]∧SortedToK κ (arrOf st') a₀.size
 have fin:∀st',Sta kd a₀ st'->SortedToK κ (arrOf st') a₀.size->Fin (setPending st' ((pendingOf st').push (0,a₀.size,0))):=fun st' B' r=>⟨B'.perm,B'.failed,by show(pendingOf st').push _=_;rw[B'.pend];rfl,r⟩
 have mr:minRun' a₀.size a₀.size 0=a₀.size:=by
  obtain⟨f,hf⟩:∃f,a₀.size=f+1:=⟨a₀.size-1,by omega⟩
  have q:minRun' (f+1) a₀.size 0=a₀.size+0:=by rw[minRun'_succ,if_pos h64]
  rw[←hf] at q
  exact q
 rw[sortRuns'_eq]
 refine wpS_bind (wpS_get ?_)
 dsimp only
 simp only[B.sz,mr]
 refine wpS_bind (wpS_mono (wpS_forRange (fun x c st'=>(x=0∧c=(none,0)∧Sta kd a₀ st')∨(1≤x∧c=(none,a₀.size)∧Fin st')) (Q:=fun c st'=>c=(none,a₀.size)∧Fin st')
  (fun x c st' _ x2 o=>?step) (fun c st' o=>?fin) (.inl ⟨rfl,rfl,B⟩)) fun c st' ⟨e,F⟩=>?post)
 case step=>
  rcases o with⟨e0,e,B'⟩|⟨x1,e,F⟩
  ·subst e0 e
   dsimp only
   rw[if_neg (by omega)]
   simp only[Nat.sub_zero,Nat.min_self,Nat.zero_add]
   refine wpS_bind (DH C (Nat.le_refl _) (by omega) B' fun k st2 B2 k1 k2 r=>?_)
   dsimp only
   have go:∀st3,Sta kd a₀ st3->SortedToK κ (arrOf st3) a₀.size->(pendingOf st3).back?=none∧Fin (setPending st3 ((pendingOf st3).push (0,a₀.size,0))):=fun st3 B3 r3=>⟨by rw[B3.pend];rfl,fin st3 B3 r3⟩
   rcases Nat.lt_or_ge k a₀.size with z|z
   ·rw[if_pos z]
    refine wpS_bind (wpS_lift (wpAny_rule ⟨rfl,wpS_bind (wT C (Nat.le_refl _) k1 k2 B2 r fun st3 B3 r3=>?_)⟩))
    simp only[Bool.not_true,Bool.false_eq_true,if_false]
    refine wpS_bind (wpS_get ?_)
    rw[(go st3 B3 r3).1]
    exact wpS_bind (wpS_modify (wpS_pure (.inr ⟨by omega,rfl,(go st3 B3 r3).2⟩)))
   ·rw[if_neg (by omega)]
    obtain rfl:k=a₀.size:=by omega
    refine wpS_bind (wpS_get ?_)
    rw[(go st2 B2 r).1]
    exact wpS_bind (wpS_modify (wpS_pure (.inr ⟨by omega,rfl,(go st2 B2 r).2⟩)))
  ·subst e
   dsimp only
   rw[if_pos (Nat.le_refl _)]
   exact wpS_pure ⟨rfl,F⟩
 case fin=>
  rcases o with⟨x0,_⟩|⟨_,e,F⟩
  ·omega
  ·exact⟨e,F⟩
 case post=>
  subst e
  refine wpS_bind (wpS_mono (wpS_forRange (fun _ c st2=>st2=st'∧c=(none,())) (Q:=fun c st2=>st2=st'∧c=(none,())) (fun x c st2 _ _ ⟨e1,e2⟩=>?istep) (fun _ _ q=>q) ⟨rfl,rfl⟩) fun c st2 ⟨e1,e2⟩=>?ipost)
  case istep=>
   subst e1 e2
   refine wpS_bind (wpS_get ?_)
   rw[if_pos (by rw[F.2.2.1];exact Nat.le_refl 1)]
   exact wpS_pure ⟨rfl,rfl⟩
  case ipost=>
   subst e1 e2
   exact wpS_pure (h _ F.1 F.2.1 F.2.2.2)
end
end L2
namespace L2
open PySem PySem.Spec PyProof.Rows
theorem lF:∀a:List Int,HT.bO a a=false
 | []=>rfl
 | x::a=>by rw[HT.dJ,if_pos rfl];exact lF a
theorem jn:∀(a b c:List Int),HT.bO a b=true->HT.bO b c=true->HT.bO a c=true
 | [],[],_,h,_=>by cases h
 | [],_::_,[],_,h=>by cases h
 | [],_::_,_::_,_,_=>rfl
 | _::_,[],_,h,_=>by cases h
 | _::_,_::_,[],_,h=>by cases h
 | x::a,y::b,z::c,h1,h2=>by
  rw[HT.dJ] at h1 h2 ⊢
  by_cases e1:x=y
  ·subst e1
   rw[if_pos rfl] at h1
   by_cases e2:x=z
   ·subst e2
    rw[if_pos rfl] at h2 ⊢
    exact jn a b c h1 h2
   ·rw[if_neg e2] at h2 ⊢
    exact h2
  ·rw[if_neg e1] at h1
   have h1:=of_decide_eq_true h1
   by_cases e2:y=z
   ·subst e2
    rw[if_neg e1]
    exact decide_eq_true h1
   ·rw[if_neg e2] at h2
    have h2:=of_decide_eq_true h2
    rw[if_neg (by omega)]
    exact decide_eq_true (by omega)
theorem jo:∀(a b:List Int),HT.bO a b=false->HT.bO b a=false->a=b
 | [],[],_,_=>rfl
 | [],_::_,h,_=>by cases h
 | _::_,[],_,h=>by cases h
 | x::a,y::b,h1,h2=>by
  rw[HT.dJ] at h1 h2
  by_cases e:x=y
  ·subst e
   rw[if_pos rfl] at h1 h2
   rw[jo a b h1 h2]
  ·rw[if_neg e] at h1
   rw[if_neg (fun z=>e z.symm)] at h2
   have h1:=of_decide_eq_false h1
   have h2:=of_decide_eq_false h2
   omega
theorem zp (a b c:List Int) (h:HT.bO a c=true):HT.bO a b=true∨HT.bO b c=true:=by
 cases e:HT.bO a b with
 | true=>exact .inl rfl
 | false=>
  refine .inr ?_
  cases e2:HT.bO b a with
  | true=>exact jn b a c e2 h
  | false=>rw[←jo a b e e2];exact h
def fO (kf:Value->List Int):PyProof.Rows.KeyKind where
 α:=List Int
 blt:=HT.bO
 irrefl:=lF
 trans:=jn
 negTrans:=zp
 total:=jo
 keyOf:=fun v=>some (kf v)
 dflt:=[]
theorem pG {kf:Value->List Int}{xs:Array Keyed}{i:Nat}(h:i<xs.size):KK (fO kf) xs i=kf xs[i].1:=by
 unfold KK
 rw[getElem?_pos xs i h]
 rfl
section
variable {prog:Program}{w:World}{A:Around}{E:Value->Shared->Prop}{s:Shared}
theorem pH (f:Bool) (x y:Value):keyLt' (tuples' f) x y=(do
  let xs ←Builtin.List.listItems x;let ys ←Builtin.List.listItems y
  for ((p,q),i) in (xs.toList.zip ys.toList).zipIdx do
   if !(←eqBool p q) then return ←oneLt' (f&&i==0) p q
  return decide (xs.size<ys.size)):=rfl
theorem tJ {f:Bool}{a b:Int}{t u:Tok}{Q:Bool->Shared->Prop}(h:Q (decide (a<b)) s):wpAny (model prog w) A (oneLt' f (.int a t) (.int b u)) Q E s:=by
 cases f with
 | true=>exact oneLt_int h
 | false=>
  rw[oneLt'_eq]
  simp only[Bool.false_eq_true,if_false]
  exact wpAny_bind (lt_int (wpAny_truthy_bool h))
abbrev AJ (v:Value) (k:Int):Prop:=∃t,v=Value.int k t
theorem wU {f:Bool}{ks ks':List Int}{a b:Addr}{Q:Bool->Shared->Prop}(x:bE s.heap ks a) (y:bE s.heap ks' b) (h:Q (HT.bO ks ks') s):wpAny (model prog w) A (keyLt' (tuples' f) (.ref a) (.ref b)) Q E s:=by
 obtain⟨xs,⟨o,e,_,n,d⟩,r⟩:=x
 obtain⟨ys,⟨o',e',_,n',d'⟩,r'⟩:=y
 rw[pH]
 refine wpAny_bind (listItems_at e d (wpAny_bind (listItems_at e' d' (wpAny_bind ?_))))
 refine wpAny_forIn_list _ (fun rest r s'=>r.1=none∧s'=s∧∃(x' y':List Int) (us vs:List Value) (i:Nat),rest=(us.zip vs).zipIdx i∧Paired AJ us x'∧Paired AJ vs y'∧HT.bO x' y'=HT.bO ks ks'∧decide (us.length<vs.length)=decide (xs.size<ys.size))
  _ ?turn ?fin _ _ ⟨rfl,rfl,ks,ks',xs.toList,ys.toList,0,rfl,r,r',rfl,by simp⟩
 case turn=>
  rintro⟨⟨p,q⟩,j⟩ rest c s' ⟨_,e1,x',y',us,vs,i,e2,p1,p2,le,ll⟩
  subst e1
  cases p1 with
  | nil=>simp at e2
  | @cons u k us' x'' hu p1'=>
   cases p2 with
   | nil=>simp at e2
   | @cons v k' vs' y'' hv p2'=>
    rw[List.zip_cons_cons,List.zipIdx_cons] at e2
    injection e2 with e3 e4
    cases e3
    obtain⟨t,rfl⟩:=hu
    obtain⟨t',rfl⟩:=hv
    rw[HT.dJ] at le
    refine wpAny_bind (wpAny_eqBool_int ?_)
    by_cases z:k=k'
    ·subst z
     rw[if_pos rfl] at le
     rw[if_neg (by simp)]
     exact wpAny_pure ⟨rfl,rfl,x'',y'',us',vs',_,e4,p1',p2',le,by rw[←ll];simp⟩
    ·rw[if_neg z] at le
     rw[if_pos (by simpa using z)]
     refine wpAny_bind (tJ ?_)
     rw[le]
     exact wpAny_pure (wpAny_pure h)
 case fin=>
  rintro⟨c1,c2⟩ s' ⟨e0,e1,x',y',us,vs,i,e2,p1,p2,le,ll⟩
  simp only at e0
  subst e0 e1
  have z:decide (xs.size<ys.size)=HT.bO ks ks':=by
   rw[←le,←ll]
   cases p1 with
   | nil=>cases p2 with
    | nil=>rfl
    | cons _ _=>simp[HT.mn]
   | cons _ _=>cases p2 with
    | nil=>simp[HT.mo]
    | cons _ _=>rw[List.zip_cons_cons,List.zipIdx_cons] at e2;cases e2
  show wpAny _ _ (pure (decide (xs.size<ys.size))) _ _ _
  rw[z]
  exact wpAny_pure h
noncomputable def bT (h:Heap) (v:Value):List Int:=@dite (List Int) (∃ks,∃a,v=.ref a∧bE h ks a) (Classical.propDecidable _) (fun z=>Classical.choose z) fun _=>[]
theorem dQ {h:Heap}{ks:List Int}{a:Addr}(x:bE h ks a):bT h (.ref a)=ks:=by
 have z:∃ks,∃b,Value.ref a=.ref b∧bE h ks b:=⟨ks,a,rfl,x⟩
 unfold bT
 rw[dif_pos z]
 obtain⟨b,e,q⟩:=Classical.choose_spec z
 cases e
 exact q.inj x
abbrev iK (h:Heap) (v:Value) (ks:List Int):Prop:=∃a,v=Value.ref a∧bE h ks a
theorem pI {h:Heap}:∀{vs:List Value}{kss:List (List Int)},Paired (iK h) vs kss->vs.map (bT h)=kss
 | _,_,.nil=>rfl
 | _,_,.cons ⟨a,e,x⟩ t=>by rw[List.map_cons,pI t,e,dQ x]
theorem zq {f:Bool}{vs:List Value}{kss:List (List Int)}(p:Paired (iK s.heap) vs kss):Cmp prog w A E s (fO (bT s.heap)) (tuples' f) (pairsOf vs):=by
 intro st i j Q B hi hj h
 have at_:∀k,(hk:k<(pairsOf vs).size)->∃v b ks,(arrOf st)[k]?=some (v,b)∧iK s.heap v ks∧KK (fO (bT s.heap)) (arrOf st) k=ks:=fun k hk=>by
  have hk':k<(arrOf st).size:=by rw[B.sz];exact hk
  have hm:(arrOf st)[k]∈(pairsOf vs).toList:=(Array.perm_iff_toList_perm.mp B.perm).mem_iff.mp (by simp)
  rw[pairsOf_toList] at hm
  have hv:=(mem_zip_self hm).2
  obtain⟨ks,_,a,e,x⟩:=eO p _ hv
  refine⟨(arrOf st)[k].1,(arrOf st)[k].2,ks,Array.getElem?_eq_getElem hk',⟨a,e,x⟩,?_⟩
  rw[pG hk',e,dQ x]
 obtain⟨v1,b1,k1,e1,⟨a1,rfl,x1⟩,q1⟩:=at_ i hi
 obtain⟨v2,b2,k2,e2,⟨a2,rfl,x2⟩,q2⟩:=at_ j hj
 rw[q1,q2] at h
 rw[ltAt'_eq]
 refine wpS_bind (wpS_get ?_)
 show wpS _ _ _ _ (do let x ←elem' (arrOf st) i;let y ←elem' (arrOf st) j;lt' x y) Q st
 rw[elem'_eq,elem'_eq,e1,e2]
 refine wpS_bind (wpS_pure (wpS_bind (wpS_pure ?_)))
 rw[lt'_eq]
 refine wpS_bind (wpS_get ?_)
 rw[B.kind]
 exact wpS_bind (wpS_lift (wpAny_attempt (wU x1 x2 ⟨rfl,wpS_pure h⟩)))
theorem rP {α β:Type}{f:α->Sem β}{R:α->β->Prop}{M:Model}:∀(l:List α) {Q:List β->Shared->Prop},(∀v∈l,∀Q':β->Shared->Prop,(∀b,R v b->Q' b s)->wpAny M A (f v) Q' E s)->(∀bs,Paired R l bs->Q bs s)->wpAny M A (l.mapM f) Q E s
 | [],Q,_,h=>by rw[List.mapM_nil];exact wpAny_pure (h [] .nil)
 | a::l,Q,hf,h=>by
  rw[List.mapM_cons]
  refine wpAny_bind (hf a List.mem_cons_self _ fun b hb=>?_)
  exact wpAny_bind (rP l (fun v hv=>hf v (List.mem_cons_of_mem _ hv)) fun bs hbs=>wpAny_pure (h _ (.cons hb hbs)))
theorem wV (v:Value):firstOfTuple' v=(do
  if (←typeOf v) != .type "tuple" then return none
  return (←Builtin.List.listItems v)[0]?):=rfl
theorem wW {ks:List Int}{a:Addr}{Q:Option Value->Shared->Prop}(x:bE s.heap ks a) (hne:ks≠[]) (h:∀k t,Q (some (.int k t)) s):wpAny (model prog w) A (firstOfTuple' (.ref a)) Q E s:=by
 obtain⟨xs,tp,r⟩:=x
 have hT:=fb tp
 obtain⟨o,e,c,n,d⟩:=tp
 rw[wV]
 refine wpAny_bind (wpAny_typeOf hT ?_)
 rw[if_neg (by simp)]
 refine wpAny_bind (listItems_at e d (wpAny_pure ?_))
 cases ks with
 | nil=>exact absurd rfl hne
 | cons k ks=>
  obtain⟨v,e1,t,e2⟩:=dN (i:=0) (b:=k) r rfl
  have:xs[0]?=some v:=by rw[←Array.getElem?_toList];exact e1
  rw[this,e2]
  exact h k t
theorem rQ:∀{l:List Value}{fs:List (Option Value)},Paired (fun _ o=>∃k t,o=some (Value.int k t)) l fs->fs.all (·.isSome)=true∧∃ns,IntsAre (fs.filterMap id) ns∧ns.length=l.length
 | _,_,.nil=>⟨rfl,[],.nil,rfl⟩
 | _,_,.cons ⟨k,t,e⟩ r=>by
  obtain⟨h1,ns,h2,h3⟩:=rQ r
  subst e
  exact⟨by simpa using h1,k::ns,.cons k t h2,by simp[h3]⟩
theorem wX {v₁ v₂:Value}{vs:List Value}{kss:List (List Int)}{Q:SortKind->Shared->Prop}(p:Paired (iK s.heap) (v₁::v₂::vs) kss) (hne:∀ks∈kss,ks≠[]) (h:Q (tuples' true) s) :
  wpAny (model prog w) A (keyKind' (v₁::v₂::vs).toArray) Q E s:=by
 rw[keyKind'_eq,List.mapM_toArray]
 refine wpAny_bind (wpAny_map (rP (R:=fun _ o=>∃k t,o=some (Value.int k t)) _ (fun v hv Q' q=>?_) fun fs hfs=>?_))
 ·obtain⟨ks,hk,a,e,x⟩:=eO p v hv
  subst e
  exact wW x (hne ks hk) fun k t=>q _ ⟨k,t,rfl⟩
 ·obtain⟨h1,ns,h2,h3⟩:=rQ hfs
  rw[if_pos (by simpa using h1)]
  refine wpAny_bind (wpAny_rule ?_)
  rw[oneTypeOnly'_eq]
  have e:(List.toArray fs).filterMap id=(fs.filterMap id).toArray:=by simp
  rw[e,List.mapM_toArray,mapM_typeOf_ints h2]
  simp only[map_pure,pure_bind]
  cases z:fs.filterMap id with
  | nil=>
   rw[z] at h2
   cases h2
   simp at h3
  | cons f0 fr=>
   have z0:(List.map (fun _=>Value.type "int") (f0::fr)).toArray[0]?=some (Value.type "int"):=by simp
   have z1:((List.map (fun _=>Value.type "int") (f0::fr)).toArray.all fun x=>x==Value.type "int")=true:=by
    simp only[List.all_toArray,List.all_map,List.all_eq_true]
    intro _ _
    rfl
   rw[z0]
   simp only[z1,if_true,pure_bind]
   exact wpAny_pure h
end
end L2
namespace L2
open PySem PySem.Spec PyProof.Rows
abbrev jp (kss:List (List Int)):Prop:=kss.Pairwise fun a b=>HT.bO b a=false
section
variable {prog:Program}{w:World}{A:Around}{E:Value->Shared->Prop}{s:Shared}
theorem rR {h h':Heap}{a d:Addr}{o:Obj}{ks:List Int}(x:bE h ks a) (ho:h.get? d=some o) (hc:o.cls≠.type "tuple") (k:∀b u,b≠d->h.get? b=some u->h'.get? b=some u):bE h' ks a:=by
 obtain⟨i,⟨o',e,c,n,d'⟩,r⟩:=x
 refine⟨i,⟨o',k a o' ?_ e,c,n,d'⟩,r⟩
 rintro rfl
 rw[e] at ho
 cases ho
 exact hc c
theorem zr {h:Heap}{vs:List Value}{xs:Array Keyed}(hp:xs.Perm (pairsOf vs)) (hs:SortedToK (fO (bT h)) xs (pairsOf vs).size):(xs.map (·.2)).toList.Perm vs∧jp ((xs.map (·.2)).toList.map (bT h)):=by
 have same:∀q∈xs.toList,q.1=q.2:=fun q hq=>(mem_zip_self (by rw[←pairsOf_toList];exact(Array.perm_iff_toList_perm.mp hp).mem_iff.mp hq)).1
 have e1:(xs.map (·.2)).toList=xs.toList.map (·.2):=by simp
 have e2:(pairsOf vs).toList.map (·.2)=vs:=by
  rw[pairsOf_toList]
  exact List.map_snd_zip (by simp)
 refine⟨?_,?_⟩
 ·rw[e1]
  have:=(Array.perm_iff_toList_perm.mp hp).map (·.2)
  rw[e2] at this
  exact this
 ·rw[e1,List.map_map]
  unfold jp
  rw[List.pairwise_iff_getElem]
  intro i j hi hj hij
  rw[List.length_map] at hi hj
  have hi':i<xs.size:=by simpa using hi
  have hj':j<xs.size:=by simpa using hj
  have z:=hs i j (by omega) (by rw[←hp.size_eq];exact hj')
  have z:HT.bO (KK (fO (bT h)) xs j) (KK (fO (bT h)) xs i)=false:=z
  rw[pG hi',pG hj'] at z
  have s1:=same xs[i] (by simp)
  have s2:=same xs[j] (by simp)
  rw[s1,s2] at z
  simpa using z
theorem pJ {a:Addr}{vs:List Value}{kss:List (List Int)}{n:Nat}{P:Fin->Shared->Prop}(ho:s.heap.get? a=some (seqObj "list" vs.toArray n)) (p:Paired (iK s.heap) vs kss) (hne:∀ks∈kss,ks≠[]) (h64:vs.length<64)
  (h:∀out:Array Value,out.toList.Perm vs->jp (out.toList.map (bT s.heap))->P (.done (.ret .none)) { s with heap:=sortedHeap s.heap a vs out }):wpAny (model prog w) A (Builtin.«list.sort» ⟨[.ref a],[]⟩) P E s:=by
 have lt:a<s.heap.objs.size:=Heap.lt_size ho
 obtain⟨e1,o1⟩:∃e1,(s.heap.update a (Obj.mapSeq fun _=>#[])).get? a=some (seqObj "list" #[] e1):=⟨_,get?_update_seq ho _⟩
 have o2:(((s.heap.update a (Obj.mapSeq fun _=>#[])).push (seqObj "tuple" vs.toArray 0)).push (seqObj "list" #[] 0)).get? a=some (seqObj "list" #[] e1):=Heap.get?_push_of_some _ (Heap.get?_push_of_some _ o1)
 have keep:∀b u,b≠a->s.heap.get? b=some u->(((s.heap.update a (Obj.mapSeq fun _=>#[])).push (seqObj "tuple" vs.toArray 0)).push (seqObj "list" #[] 0)).get? b=some u:=fun b u hb q=>
  Heap.get?_push_of_some _ (Heap.get?_push_of_some _ ((Heap.get?_update_other _ _ (Ne.symm hb)).trans q))
 have p':Paired (iK (((s.heap.update a (Obj.mapSeq fun _=>#[])).push (seqObj "tuple" vs.toArray 0)).push (seqObj "list" #[] 0))) vs kss:=ay (fun _ _ ⟨b,e,x⟩=>⟨b,e,rR x ho (by simp) keep⟩) p
 have kf:∀v∈vs,bT (((s.heap.update a (Obj.mapSeq fun _=>#[])).push (seqObj "tuple" vs.toArray 0)).push (seqObj "list" #[] 0)) v=bT s.heap v:=fun v hv=>by
  obtain⟨ks,_,b,e,x⟩:=eO p v hv
  rw[e,dQ x,dQ (rR x ho (by simp) keep)]
 have fin:∀xs:Array Keyed,xs.Perm (pairsOf vs)->SortedToK (fO (bT (((s.heap.update a (Obj.mapSeq fun _=>#[])).push (seqObj "tuple" vs.toArray 0)).push (seqObj "list" #[] 0)))) xs (pairsOf vs).size->
   P (.done (.ret .none)) { s with heap:=sortedHeap s.heap a vs (xs.map (·.2)) }:=fun xs hp hs=>by
  obtain⟨q1,q2⟩:=zr hp hs
  refine h _ q1 ?_
  have e:(xs.map (·.2)).toList.map (bT s.heap)=(xs.map (·.2)).toList.map (bT (((s.heap.update a (Obj.mapSeq fun _=>#[])).push (seqObj "tuple" vs.toArray 0)).push (seqObj "list" #[] 0))):=
   List.map_congr_left fun v hv=>(kf v (q1.mem_iff.mp hv)).symm
  rw[e]
  exact q2
 have sz:∀xs:Array Keyed,xs.Perm (pairsOf vs)->((fun(_:Array Value)=>xs.map (·.2)) #[]).size≤sizeLine+1:=fun xs hp=>by
  show(xs.map (·.2)).size≤_
  rw[Array.size_map,hp.size_eq,pairsOf_size,sizeLine_eq]
  omega
 rw[list_sort_plain]
 refine wpAny_bind (listItems_at ho rfl (wpAny_bind (listUpdate_at ho rfl (wpAny_bind (seqEpoch_at o1 rfl (wpAny_bind (wpAny_newTuple (wpAny_bind (wpAny_newList (wpAny_holding ?_)))))) ) ?_ ?_)))
 case refine_2=>rw[List.size_toArray,sizeLine_eq];omega
 case refine_3=>show(#[]:Array Value).size≤_;simp
 show wpAny (model prog w) A _ P E { s with heap:=((s.heap.update a (Obj.mapSeq fun _=>#[])).push (seqObj "tuple" vs.toArray 0)).push (seqObj "list" #[] 0) }
 dsimp only
 by_cases h2:vs.toArray.size<2
 ·rw[if_pos h2,if_pos h2]
  refine wpAny_bind (wpAny_pure ?_)
  rw[StateT.run_pure]
  refine wpAny_bind (wpAny_pure (wpAny_bind (seqEpoch_at o2 rfl (wpAny_bind (listUpdate_at o2 rfl ?_ (Nat.zero_le _) (sz (pairsOf vs) (Array.Perm.refl _)))))))
  simp only[bne_self_eq_false,Bool.false_eq_true,if_false]
  refine wpAny_pure (fin (pairsOf vs) (Array.Perm.refl _) fun i j h1 h3=>?_)
  rw[pairsOf_size] at h3
  have h2:vs.length<2:=by simpa using h2
  obtain rfl:i=j:=by omega
  exact KeyOrd.kle_refl _
 ·rw[if_neg h2,if_neg h2]
  have h2:2≤vs.length:=by simpa using h2
  obtain⟨v₁,v₂,rest,rfl⟩:∃v₁ v₂ rest,vs=v₁::v₂::rest:=by
   match vs,h2 with
   | [],h2=>simp at h2
   | [_],h2=>simp at h2
   | v₁::v₂::rest,_=>exact⟨v₁,v₂,rest,rfl⟩
  refine wpAny_bind (wX (s:={ s with heap:=((s.heap.update a (Obj.mapSeq fun _=>#[])).push (seqObj "tuple" (v₁::v₂::rest).toArray 0)).push (seqObj "list" #[] 0) }) p' hne ?_)
  refine wpAny_bind (wpAny_mono (AI (zq p') (st:=SortSt.mk' (tuples' true) ((v₁::v₂::rest).toArray.zip (v₁::v₂::rest).toArray) #[] 7 none)
   (Q:=fun _ st'=>(arrOf st').Perm (pairsOf (v₁::v₂::rest))∧failedOf st'=none∧SortedToK (fO (bT _)) (arrOf st') (pairsOf (v₁::v₂::rest)).size)
   ⟨Array.Perm.refl _,rfl,rfl,rfl⟩ (by rw[pairsOf_size];exact h2) (by rw[pairsOf_size];exact h64) fun st' a1 a2 a3=>⟨a1,a2,a3⟩) ?_ fun _ _ e=>e)
  rintro⟨⟨⟩,st'⟩ s' ⟨rfl,hp,hf,hs⟩
  dsimp only
  refine wpAny_bind (seqEpoch_at o2 rfl (wpAny_bind (listUpdate_at o2 rfl ?_ (Nat.zero_le _) (sz (arrOf st') hp))))
  rw[hf]
  simp only[bne_self_eq_false,Bool.false_eq_true,if_false]
  exact wpAny_pure (fin (arrOf st') hp hs)
theorem re {l:Addr}{vs:List Value}{kss:List (List Int)}{Q:Value->Shared->Prop}(hl:s.heap.IsList l vs.toArray) (p:Paired (iK s.heap) vs kss) (hne:∀ks∈kss,ks≠[]) (h64:vs.length<64)
  (h:∀out:Array Value,out.toList.Perm vs->jp (out.toList.map (bT s.heap))->Q (.ref (s.heap.objs.size+1)) { s with heap:=sortedAll s.heap vs out }):wpAny (model prog w) A (call (.builtin "sorted") [.ref l]) Q E s:=by
 refine Calls.call_function_entry kind_sorted plain_sorted entry_sorted (args_sorted1 _) ?_
 have hz:((s.heap.push (seqObj "list" #[] 0)).update s.heap.objs.size (Obj.mapSeq (·++vs.toArray))).objs.size=s.heap.objs.size+1:=by rw[Heap.size_update,size_push']
 have hL:(((s.heap.push (seqObj "list" #[] 0)).update s.heap.objs.size (Obj.mapSeq (·++vs.toArray))).push (seqObj "list" vs.toArray 0)).get? (s.heap.objs.size+1)=some (seqObj "list" vs.toArray 0):=by
  rw[←hz]
  exact Heap.get?_push_size _ rfl
 have kp:∀b u,s.heap.get? b=some u->(((s.heap.push (seqObj "list" #[] 0)).update s.heap.objs.size (Obj.mapSeq (·++vs.toArray))).push (seqObj "list" vs.toArray 0)).get? b=some u:=fun b u q=>
  Heap.get?_push_of_some _ ((Heap.get?_update_other _ _ (Nat.ne_of_gt (Heap.lt_size q))).trans (Heap.get?_push_of_some _ q))
 have up:∀{ks:List Int}{b:Addr},bE s.heap ks b->bE (((s.heap.push (seqObj "list" #[] 0)).update s.heap.objs.size (Obj.mapSeq (·++vs.toArray))).push (seqObj "list" vs.toArray 0)) ks b:=fun⟨i,⟨o,e,c,n,d⟩,r⟩=>⟨i,⟨o,kp _ _ e,c,n,d⟩,r⟩
 unfold Builtin.«sorted»
 refine wpAny_bind (m:=checkCount "sorted" 1 1 _) (wpAny_pure (wpAny_bind (collect_list hl (wpAny_bind (wpAny_newList ?_)) (by rw[sizeLine_eq];omega))))
 show wpAny _ _ _ _ _ { s with heap:=((s.heap.push (seqObj "list" #[] 0)).update s.heap.objs.size (Obj.mapSeq (·++vs.toArray))).push (seqObj "list" vs.toArray 0) }
 rw[hz]
 refine wpAny_bind (wpAny_holding (wpAny_call_entry PyProof.Rows.slot_list_sort ⟨_,hL,rfl⟩ PyProof.Rows.entry_list_sort (pJ hL (ay (fun _ _ ⟨b,e,x⟩=>⟨b,e,up x⟩) p) hne h64 fun out q1 q2=>⟨_,rfl,wpAny_pure ⟨_,rfl,h out q1 ?_⟩⟩) (args_list_sort _)))
 have e:out.toList.map (bT s.heap)=out.toList.map (bT (((s.heap.push (seqObj "list" #[] 0)).update s.heap.objs.size (Obj.mapSeq (·++vs.toArray))).push (seqObj "list" vs.toArray 0))):=List.map_congr_left fun v hv=>by
  obtain⟨ks,_,b,e,x⟩:=eO p v (q1.mem_iff.mp hv)
  rw[e,dQ x,dQ (up x)]
 rw[e]
 exact q2
end
section
variable {X:Cx}
def toV:Value->V
 | .ref a=>.ref a
 | _=>.non
theorem ky {h:Heap}{K:W.Frag}{H:Hp}(f:∀a ks,av.rep K H (.ref a) ks->bE h ks a) {as:List V}{its:List Value}{kss:List (List Int)}(r:az as its) (p:Paired (av.rep K H) as kss) :
  Paired (iK h) its kss∧∀v∈its,∃a ks,v=.ref a∧av.rep K H (.ref a) ks∧bT h v=ks:=by
 have q:Paired (fun v ks=>∃a,v=Value.ref a∧av.rep K H (.ref a) ks) its kss:=lE (F:=aF) (G:=av.rep K H) (fun x u ks h1 h2=>by
  obtain⟨a,xs,e,q⟩:=id h2
  subst e
  cases h1
  exact⟨a,rfl,h2⟩) r p
 refine⟨ay (fun _ _ ⟨a,e,z⟩=>⟨a,e,f a _ z⟩) q,fun v hv=>?_⟩
 obtain⟨ks,_,a,e,z⟩:=eO q v hv
 exact⟨a,ks,e,z,by rw[e];exact dQ (f a ks z)⟩
theorem jq:cS X (.builtin "sorted") (fun xs H Q=>∃(y:V) (kss:List (List Int)),xs=[y]∧(e9 av).rep X.K H y kss∧(∀ks∈kss,ks≠[])∧kss.length<64∧
  ∀(l:Addr) (as':List V) (kss':List (List Int)),H l=none->Paired (av.rep X.K H) as' kss'->kss'.Perm kss->jp kss'->Q (.ref l) (upd H l (.lst as'))):=by
 intro aa s σ H xs us Q I r h
 obtain⟨y,kss,rfl,⟨p,as,e,hp,hd⟩,hne,h64,q⟩:=h
 subst e
 obtain⟨u,rfl,ru⟩:=eE r
 cases ru
 obtain⟨its,rv,pl,hz⟩:=I.list hp
 have hl:=rv.length
 have hl2:=hd.length
 obtain⟨pt,back⟩:=ky (h:=s.heap) (fun a ks z=>oy I z) rv hd
 refine re pl.isList pt hne (by omega) fun out q1 q2=>?_
 obtain⟨e,he⟩:=sortedAll_at s.heap its out
 have hfresh:H (s.heap.objs.size+1)=none:=I.hok.fresh (Nat.le_succ _)
 have each:∀v∈out.toList,∃a ks,v=.ref a∧av.rep X.K H (.ref a) ks∧bT s.heap v=ks:=fun v hv=>back v (q1.mem_iff.mp hv)
 have mk:∀l:List Value,(∀v∈l,∃a ks,v=.ref a∧av.rep X.K H (.ref a) ks∧bT s.heap v=ks)->az (l.map toV) l∧Paired (av.rep X.K H) (l.map toV) (l.map (bT s.heap)):=by
  intro l
  induction l with
  | nil=>intro _;exact⟨.nil,.nil⟩
  | cons v l ih=>
   intro hl
   obtain⟨i1,i2⟩:=ih fun u hu=>hl u (List.mem_cons_of_mem _ hu)
   obtain⟨a,ks,e1,e2,e3⟩:=hl v List.mem_cons_self
   subst e1
   exact⟨.cons rfl i1,.cons (by rw[e3];exact e2) i2⟩
 obtain⟨v1,v2⟩:=mk out.toList each
 have hkf:its.map (bT s.heap)=kss:=pI pt
 have hlen:out.toList.length=its.length:=q1.length_eq
 refine⟨.ref (s.heap.objs.size+1),_,I.laid (t':=s.toks) (o:=.lst (out.toList.map toV)) (fun b o z=>sortedAll_old z) (Nat.le_succ _) ⟨by rw[List.length_map,sizeLine_eq];omega,out.toList,e,v1,by simpa [seqObj] using he⟩,rfl,
  q _ _ _ hfresh v2 (by rw[←hkf];exact q1.map _) q2⟩
end
end L2
namespace Sa
open PySem PySem.SetTable
def stand (t:SetTable) (h:Int):Nat->Probe
 | 0=>t.probeStart h
 | n+1=>t.advance (stand t h n)
theorem AK {t u:SetTable}(e:t.mask=u.mask) (p:Probe):t.advance p=u.advance p:=by
 unfold advance
 rw[e]
theorem kM {t u:SetTable}(e:t.mask=u.mask) (h:Int):∀n,stand t h n=stand u h n
 | 0=>by unfold stand probeStart;rw[e]
 | n+1=>by unfold stand;rw[kM e h n,AK e]
theorem stand_dummy (t:SetTable) (h:Int):∀n,(stand t h n).dummy=none
 | 0=>rfl
 | n+1=>by
  have ih:=stand_dummy t h n
  unfold stand advance
  split
  ·exact ih
  ·exact ih
def aP (mask:Nat) (h:Int):Nat->Nat×Nat
 | 0=>(bits h % (mask+1),bits h)
 | r+1=>leap mask (aP mask h r).1 (aP mask h r).2
def bM (mask:Nat) (h:Int):Nat->Nat
 | 0=>0
 | r+1=>bM mask h r+(runEnd mask (aP mask h r).1-(aP mask h r).1)+1
theorem jr (mask i:Nat):i≤runEnd mask i∧runEnd mask i≤i+9:=by
 unfold runEnd
 split <;> omega
theorem nj (mask:Nat) (h:Int):∀r,bM mask h r≤10*r
 | 0=>Nat.le_refl _
 | r+1=>by
  have ih:=nj mask h r
  have:=jr mask (aP mask h r).1
  unfold bM
  omega
theorem dF (t:SetTable) (h:Int):∀r k,k≤runEnd t.mask (aP t.mask h r).1-(aP t.mask h r).1->
  stand t h (bM t.mask h r+k)={ j:=(aP t.mask h r).1+k,more:=runEnd t.mask (aP t.mask h r).1-(aP t.mask h r).1-k,i:=(aP t.mask h r).1,perturb:=(aP t.mask h r).2,dummy:=none }
 | 0,0,_=>rfl
 | r+1,0,_=>by
  have ih:=dF t h r (runEnd t.mask (aP t.mask h r).1-(aP t.mask h r).1) (Nat.le_refl _)
  have e:bM t.mask h (r+1)+0=(bM t.mask h r+(runEnd t.mask (aP t.mask h r).1-(aP t.mask h r).1))+1:=rfl
  rw[e]
  show t.advance (stand t h _)=_
  rw[ih]
  unfold advance
  simp only[Nat.sub_self,Nat.lt_irrefl,gt_iff_lt,if_false]
  rfl
 | r,k+1,hk=>by
  have ih:=dF t h r k (by omega)
  have e:bM t.mask h r+(k+1)=(bM t.mask h r+k)+1:=rfl
  rw[e]
  show t.advance (stand t h _)=_
  rw[ih]
  unfold advance
  have z:runEnd t.mask (aP t.mask h r).1-(aP t.mask h r).1-k > 0:=by omega
  simp only[z,if_true]
  congr 1
theorem rf (t:SetTable) (h:Int) (r:Nat):(stand t h (bM t.mask h r)).j=(aP t.mask h r).1:=by
 have:=dF t h r 0 (Nat.zero_le _)
 rw[Nat.add_zero] at this
 rw[this]
 rfl
def nx (mask i:Nat):Nat:=(i*5+1) % (mask+1)
def itr (mask:Nat):Nat->Nat->Nat
 | 0,i=>i
 | n+1,i=>itr mask n (nx mask i)
theorem ig (mask:Nat):∀a b i,itr mask (a+b) i=itr mask b (itr mask a i)
 | 0,b,i=>by rw[Nat.zero_add];rfl
 | a+1,b,i=>by
  rw[show a+1+b=(a+b)+1 by omega]
  show itr mask (a+b) (nx mask i)=itr mask b (itr mask a (nx mask i))
  exact ig mask a b _
def orb (mask:Nat):Nat->Nat->List Nat
 | 0,_=>[]
 | n+1,i=>i::orb mask n (nx mask i)
theorem mG (mask:Nat):∀n i j,j∈orb mask n i->∃k,k<n∧itr mask k i=j
 | 0,_,_,h=>by cases h
 | n+1,i,j,h=>by
  rcases List.mem_cons.mp h with rfl|h
  ·exact⟨0,by omega,rfl⟩
  ·obtain⟨k,hk,e⟩:=mG mask n _ j h
   exact⟨k+1,by omega,e⟩
def Mk (mask:Nat):Prop:=mask=7∨mask=31∨mask=127
theorem DI {mask:Nat}(h:Mk mask):itr mask (mask+1) 0=0∧∀j,j<mask+1->j∈orb mask (mask+1) 0:=by
 rcases h with rfl|rfl|rfl <;> decide +kernel
theorem reach {mask i j:Nat}(h:Mk mask) (hi:i<mask+1) (hj:j<mask+1):∃k,k<mask+1∧itr mask k i=j:=by
 obtain⟨c0,c⟩:=DI h
 obtain⟨a,ha,ea⟩:=mG _ _ _ _ (c i hi)
 obtain⟨b,hb,eb⟩:=mG _ _ _ _ (c j hj)
 rcases Nat.lt_or_ge b a with z|z
 ·refine⟨b+(mask+1)-a,by omega,?_⟩
  have:itr mask (a+(b+(mask+1)-a)) 0=j:=by
   rw[show a+(b+(mask+1)-a)=(mask+1)+b by omega,ig,c0,eb]
  rw[ig,ea] at this
  exact this
 ·refine⟨b-a,by omega,?_⟩
  have:itr mask (a+(b-a)) 0=j:=by rw[show a+(b-a)=b by omega,eb]
  rw[ig,ea] at this
  exact this
theorem rS (mask:Nat) (h:Int):∀r,(aP mask h r).1<mask+1
 | 0=>Nat.mod_lt _ (Nat.succ_pos _)
 | r+1=>Nat.mod_lt _ (Nat.succ_pos _)
theorem nn (mask:Nat) (h:Int):∀r,(aP mask h r).2=bits h / 32 ^ r
 | 0=>by show bits h=_;rw[Nat.pow_zero,Nat.div_one]
 | r+1=>by
  show(aP mask h r).2 / 32=_
  rw[nn mask h r,Nat.div_div_eq_div_mul,Nat.pow_succ]
theorem zu (h:Int):bits h<2 ^ 64:=by
 unfold bits
 have h1:=Int.emod_nonneg h (show(2 ^ 64:Int)≠0 by decide)
 have h2:=Int.emod_lt_of_pos h (show(0:Int)<2 ^ 64 by decide)
 omega
theorem vd (mask:Nat) (h:Int) {r:Nat}(hr:13≤r):(aP mask h r).2=0:=by
 rw[nn]
 refine Nat.div_eq_of_lt (Nat.lt_of_lt_of_le (zu h) ?_)
 exact Nat.le_trans (show 2 ^ 64≤32 ^ 13 by decide) (Nat.pow_le_pow_right (by decide) hr)
theorem pK (mask:Nat) (h:Int):∀q,(aP mask h (13+q)).1=itr mask q (aP mask h 13).1
 | 0=>rfl
 | q+1=>by
  have e:itr mask (q+1) (aP mask h 13).1=nx mask (itr mask q (aP mask h 13).1):=by rw[ig];rfl
  rw[e,←pK mask h q]
  show(leap mask (aP mask h (13+q)).1 (aP mask h (13+q)).2).1=_
  rw[vd mask h (by omega)]
  rfl
theorem x9 (t:SetTable) (h:Int) (hm:Mk t.mask) {j:Nat}(hj:j<t.mask+1):∃r,r<t.mask+14∧(aP t.mask h r).1=j:=by
 obtain⟨k,hk,e⟩:=reach hm (rS t.mask h 13) hj
 exact⟨13+k,by omega,by rw[pK];exact e⟩
theorem AL (t:SetTable) (h:Int) (hm:Mk t.mask) {j:Nat}(hj:j<t.mask+1):∃n,n<10*(t.mask+14)∧(stand t h n).j=j:=by
 obtain⟨r,hr,e⟩:=x9 t h hm hj
 have:=nj t.mask h r
 exact⟨bM t.mask h r,by omega,by rw[rf];exact e⟩
theorem AM {mask:Nat}(i k:Nat) (hi:i<mask+1) (hk:k≤runEnd mask i-i):i+k<mask+1:=by
 unfold runEnd at hk
 split at hk <;> omega
theorem vf (mask:Nat) (h:Int):∀n,∃r k,n=bM mask h r+k∧k≤runEnd mask (aP mask h r).1-(aP mask h r).1
 | 0=>⟨0,0,rfl,Nat.zero_le _⟩
 | n+1=>by
  obtain⟨r,k,e,hk⟩:=vf mask h n
  rcases Nat.lt_or_ge k (runEnd mask (aP mask h r).1-(aP mask h r).1) with z|z
  ·exact⟨r,k+1,by omega,by omega⟩
  ·refine⟨r+1,0,?_,Nat.zero_le _⟩
   show n+1=bM mask h r+(runEnd mask (aP mask h r).1-(aP mask h r).1)+1+0
   omega
theorem pL (t:SetTable) (h:Int) (n:Nat):(stand t h n).j<t.mask+1:=by
 obtain⟨r,k,e,hk⟩:=vf t.mask h n
 rw[e,dF t h r k hk]
 exact AM _ _ (rS _ _ _) hk
theorem first {p:Nat->Prop} [DecidablePred p]:∀n,p n->∃m,m≤n∧p m∧∀k,k<m->¬p k
 | 0,h=>⟨0,Nat.le_refl _,h,fun k hk=>absurd hk (Nat.not_lt_zero _)⟩
 | n+1,h=>by
  by_cases z:∃k,k≤n∧p k
  ·obtain⟨k,hk,q⟩:=z
   obtain⟨m,h1,h2,h3⟩:=first k q
   exact⟨m,by omega,h2,h3⟩
  ·exact⟨n+1,Nat.le_refl _,h,fun k hk q=>z ⟨k,by omega,q⟩⟩
def Rise (xs:Array Nat):Prop:=xs.toList.Pairwise (· < ·)
theorem rise_get {xs:Array Nat}(r:Rise xs) {a b:Nat}(h:a<b) (hb:b<xs.size):xs[a]'(by omega)<xs[b]:=by
 have:=(List.pairwise_iff_getElem.mp r) a b (by simp;omega) (by simpa using hb) h
 simpa using this
theorem kN {xs:Array Nat}(r:Rise xs) (j:Nat):∀fuel lo hi,lo≤hi->hi≤xs.size->hi-lo≤fuel->(∀a,(ha:a<lo)->(hs:a<xs.size)->xs[a]<j)->(∀a,hi≤a->(hs:a<xs.size)->j≤xs[a])->
  below.go xs j fuel lo hi≤xs.size∧(∀a,(ha:a<below.go xs j fuel lo hi)->(hs:a<xs.size)->xs[a]<j)∧∀a,below.go xs j fuel lo hi≤a->(hs:a<xs.size)->j≤xs[a]
 | 0,lo,hi,h1,h2,h3,h4,h5=>by
  have:lo=hi:=by omega
  subst this
  unfold below.go
  exact⟨h2,h4,h5⟩
 | fuel+1,lo,hi,h1,h2,h3,h4,h5=>by
  unfold below.go
  by_cases z:lo<hi
  ·rw[if_pos z]
   have hm:(lo+hi) / 2<xs.size:=by omega
   have e:xs.getD ((lo+hi) / 2) j=xs[(lo+hi) / 2]:=by simp[Array.getD,hm]
   simp only[e]
   split
   ·rename_i y
    refine kN r j fuel _ _ (by omega) h2 (by omega) (fun a ha hs=>?_) h5
    rcases Nat.lt_or_ge a ((lo+hi) / 2) with q|q
    ·exact Nat.lt_trans (rise_get r q hm) y
    ·obtain rfl:a=(lo+hi) / 2:=by omega
     exact y
   ·rename_i y
    refine kN r j fuel _ _ (by omega) (by omega) (by omega) h4 (fun a ha hs=>?_)
    rcases Nat.lt_or_ge ((lo+hi) / 2) a with q|q
    ·exact Nat.le_trans (Nat.le_of_not_lt y) (Nat.le_of_lt (rise_get r q hs))
    ·obtain rfl:a=(lo+hi) / 2:=by omega
     exact Nat.le_of_not_lt y
  ·rw[if_neg z]
   have:lo=hi:=by omega
   subst this
   exact⟨h2,h4,h5⟩
theorem below_spec {xs:Array Nat}(r:Rise xs) (j:Nat):below xs j≤xs.size∧(∀a,(ha:a<below xs j)->(hs:a<xs.size)->xs[a]<j)∧∀a,below xs j≤a->(hs:a<xs.size)->j≤xs[a]:=
 kN r j xs.size 0 xs.size (Nat.zero_le _) (Nat.le_refl _) (by omega) (fun a ha=>absurd ha (Nat.not_lt_zero _)) fun a ha hs=>by omega
theorem wY {xs:Array Nat}(r:Rise xs) {i j:Nat}(h:xs[i]?=some j):below xs j=i:=by
 obtain⟨h1,h2,h3⟩:=below_spec r j
 obtain⟨hi,e⟩:=Array.getElem?_eq_some_iff.mp h
 rcases Nat.lt_trichotomy (below xs j) i with z|z|z
 ·have a:=h3 _ (Nat.le_refl _) (by omega)
  have b:=rise_get r z hi
  omega
 ·exact z
 ·have:=h2 i z hi
  omega
structure Tab (t:SetTable):Prop where
 msk:Mk t.mask
 rise:Rise t.place
 le:∀j∈t.place.toList,j≤t.mask
 nod:t.dummies=#[]
theorem nq (j:Nat):has #[] j=false:=by
 unfold has
 simp
theorem slot_none {t:SetTable}(T:Tab t) {j:Nat}(h:j∉t.place.toList):t.slot j=.empty:=by
 unfold slot
 have z:(t.place[below t.place j]?==some j)=false:=by
  cases e:t.place[below t.place j]? with
  | none=>rfl
  | some k=>
   have hk:k∈t.place.toList:=by
    rw[←Array.getElem?_toList] at e
    exact List.mem_of_getElem? e
   have:k≠j:=fun q=>h (q▸hk)
   simpa using this
 simp only[z,T.nod,nq,Bool.false_eq_true,if_false]
theorem slot_some {t:SetTable}(T:Tab t) {i j:Nat}(h:t.place[i]?=some j):t.slot j=.live i:=by
 unfold slot
 rw[wY T.rise h]
 simp[h]
theorem mem_at {xs:Array Nat}{j:Nat}(h:j∈xs.toList):∃i:Nat,xs[i]?=some j:=by
 obtain⟨i,hi,e⟩:=List.mem_iff_getElem.mp h
 exact⟨i,by rw[←Array.getElem?_toList,List.getElem?_eq_getElem hi,e]⟩
theorem wZ {n:Nat}{l:List Nat}(h:l.length<n):∃j,j<n∧j∉l:=by
 refine Classical.byContradiction fun z=>?_
 have sub:∀j∈List.range n,j∈l:=fun j hj=>Classical.byContradiction fun y=>z ⟨j,List.mem_range.mp hj,y⟩
 have key:∀(a b:List Nat),a.Nodup->(∀x∈a,x∈b)->a.length≤b.length:=by
  intro a
  induction a with
  | nil=>intro b _ _;exact Nat.zero_le _
  | cons x a ih=>
   intro b nd hs
   rw[List.nodup_cons] at nd
   have hx:=hs x List.mem_cons_self
   have:=ih (b.erase x) nd.2 fun y hy=>by
    refine(List.mem_erase_of_ne ?_).mpr (hs y (List.mem_cons_of_mem _ hy))
    rintro rfl
    exact nd.1 hy
   rw[List.length_erase_of_mem hx] at this
   have hp:0<b.length:=List.length_pos_of_mem hx
   simp only[List.length_cons]
   omega
 have:=key (List.range n) l List.nodup_range sub
 rw[List.length_range] at this
 omega
theorem meets {t:SetTable}(T:Tab t) (h:Int) (hf:t.place.size≤t.mask):∃n,n<10*(t.mask+14)∧(stand t h n).j∉t.place.toList∧∀m,m<n->(stand t h m).j∈t.place.toList:=by
 obtain⟨j,hj,hn⟩:=wZ (n:=t.mask+1) (l:=t.place.toList) (by simp;omega)
 obtain⟨n,h1,e⟩:=AL t h T.msk hj
 obtain⟨m,h2,h3,h4⟩:=first (p:=fun n=>(stand t h n).j∉t.place.toList) n (by rw[e];exact hn)
 exact⟨m,by omega,h3,fun k hk=>Classical.byContradiction fun z=>h4 k hk z⟩
end Sa
namespace Sa
open PySem PySem.SetTable
def jW (mask:Nat) (P:List Nat) (h:Int) (j:Nat):Prop:=∃(t:SetTable) (n:Nat),t.mask=mask∧(stand t h n).j=j∧∀m,m<n->(stand t h m).j∈P
theorem jW.more {mask:Nat}{P P':List Nat}{h:Int}{j:Nat}(r:jW mask P h j) (s:∀x∈P,x∈P'):jW mask P' h j:=
 let ⟨t,n,e,a,b⟩:=r;⟨t,n,e,a,fun m hm=>s _ (b m hm)⟩
theorem jW.at {t:SetTable}{P:List Nat}{h:Int}{j:Nat}(r:jW t.mask P h j):∃n,(stand t h n).j=j∧∀m,m<n->(stand t h m).j∈P:=by
 obtain⟨u,n,e,a,b⟩:=r
 exact⟨n,by rw[kM e.symm];exact a,fun m hm=>by rw[kM e.symm];exact b m hm⟩
abbrev Elem:=Int×Value
structure Full (t:SetTable) (es:Array Elem):Prop where
 tab:Tab t
 size:t.place.size=es.size
 reach:∀x∈t.place.toList.zip es.toList,jW t.mask t.place.toList x.2.1 x.1
theorem rT {α β:Type}:∀(p:Nat) (P:List α) (E:List β) (a:α) (b:β),P.length=E.length->p≤P.length->(P.take p++a::P.drop p).zip (E.take p++b::E.drop p)=(P.zip E).take p++(a,b)::(P.zip E).drop p
 | 0,P,E,a,b,_,_=>by simp
 | p+1,[],_,_,_,_,h=>by simp at h
 | p+1,x::P,[],_,_,h,_=>by simp at h
 | p+1,x::P,y::E,a,b,h,hp=>by
  have:=rT p P E a b (by simpa using h) (by simpa using hp)
  simp only[List.take_succ_cons,List.drop_succ_cons,List.cons_append,List.zip_cons_cons]
  rw[this]
theorem ins_list {α:Type}(xs:Array α) (p:Nat) (x:α):(insertAt xs p x).toList=xs.toList.take p++x::xs.toList.drop p:=by
 rw[SetTable.toList_insertAt]
theorem w6 {xs:Array Nat}(r:Rise xs) {j:Nat}(h:j∉xs.toList):Rise (insertAt xs (below xs j) j):=by
 obtain⟨h1,h2,h3⟩:=below_spec r j
 unfold Rise at r ⊢
 rw[ins_list]
 have e:=(List.take_append_drop (below xs j) xs.toList).symm
 rw[e] at r
 rw[List.pairwise_append] at r ⊢
 obtain⟨r1,r2,r3⟩:=r
 refine⟨r1,?_,?_⟩
 ·rw[List.pairwise_cons]
  refine⟨fun b hb=>?_,r2⟩
  obtain⟨k,hk,rfl⟩:=List.mem_iff_getElem.mp hb
  rw[List.length_drop] at hk
  have hk':below xs j+k<xs.size:=by simp at hk;omega
  rw[List.getElem_drop]
  have q:=h3 (below xs j+k) (by omega) hk'
  have ne:xs[below xs j+k]≠j:=fun z=>h (by rw[←z];simp)
  have:j<xs[below xs j+k]:=by omega
  simpa using this
 ·intro a ha b hb
  have aj:a<j:=by
   obtain⟨k,hk,rfl⟩:=List.mem_iff_getElem.mp ha
   rw[List.length_take] at hk
   rw[List.getElem_take]
   have q:=h2 k (by omega) (by simp at hk;omega)
   simpa using q
  rcases List.mem_cons.mp hb with rfl|hb
  ·exact aj
  ·exact r3 a ha b hb
theorem mH {α:Type}{l:List α}{p:Nat}{x y:α}:y∈l.take p++x::l.drop p↔y=x∨y∈l:=by
 have e:=List.take_append_drop p l
 rw[List.mem_append,List.mem_cons]
 have m:y∈l↔y∈l.take p∨y∈l.drop p:=by
  rw[←List.mem_append,e]
 rw[m]
 constructor
 ·rintro(h|h|h)
  ·exact .inr (.inl h)
  ·exact .inl h
  ·exact .inr (.inr h)
 ·rintro(h|h|h)
  ·exact .inr (.inl h)
  ·exact .inl h
  ·exact .inr (.inr h)
theorem put_tab {t:SetTable}(T:Tab t) (j:Nat):(t.put j).2=below t.place j∧(t.put j).1.mask=t.mask∧(t.put j).1.place=insertAt t.place (below t.place j) j∧(t.put j).1.dummies=#[]∧(t.put j).1.plain=t.plain∧(t.put j).1.led=t.led∧(t.put j).1.moves=t.moves:=by
 unfold put
 refine⟨rfl,rfl,rfl,?_,rfl,rfl,rfl⟩
 show(if has t.dummies j=true then _ else t.dummies)=#[]
 rw[T.nod,nq]
 rfl
theorem ins_size {α:Type}(xs:Array α) {p:Nat}(x:α) (h:p≤xs.size):(insertAt xs p x).size=xs.size+1:=by
 rw[←Array.length_toList,ins_list,List.length_append,List.length_cons,List.length_take,List.length_drop]
 simp
 omega
theorem full_put {t:SetTable}{es:Array Elem}(F:Full t es) {e:Elem}{n:Nat}(hn:(stand t e.1 n).j∉t.place.toList) (hb:∀m,m<n->(stand t e.1 m).j∈t.place.toList) :
  Full (t.put (stand t e.1 n).j).1 (insertAt es (t.put (stand t e.1 n).j).2 e):=by
 obtain⟨p1,p2,p3,p4,_⟩:=put_tab F.tab (stand t e.1 n).j
 obtain⟨b1,_,_⟩:=below_spec F.tab.rise (stand t e.1 n).j
 have hl:(stand t e.1 n).j<t.mask+1:=pL t e.1 n
 have sz:=F.size
 refine⟨⟨by rw[p2];exact F.tab.msk,by rw[p3];exact w6 F.tab.rise hn,fun j hj=>?_,p4⟩,?_,fun x hx=>?_⟩
 ·rw[p3,ins_list,mH] at hj
  rw[p2]
  rcases hj with rfl|hj
  ·omega
  ·exact F.tab.le j hj
 ·rw[p1,p3,ins_size _ _ b1,ins_size _ _ (by omega),sz]
 ·rw[p1,p3,ins_list,ins_list,rT _ _ _ _ _ (by simp[sz]) (by simpa using b1),mH] at hx
  have up:∀z∈t.place.toList,z∈(t.put (stand t e.1 n).j).1.place.toList:=fun z hz=>by rw[p3,ins_list,mH];exact .inr hz
  rw[p2]
  rcases hx with rfl|hx
  ·exact⟨t,n,rfl,rfl,fun m hm=>up _ (hb m hm)⟩
  ·exact(F.reach x hx).more up
abbrev tm (mask:Nat):SetTable:={ mask,place:=#[],dummies:=#[],finger:=0,led:=true,moves:=0,plain:=true }
def cu (owner:Array (Option Nat)) (j:Nat):Prop:=(owner.getD j (some 0)).isSome=true
instance (owner:Array (Option Nat)) (j:Nat):Decidable (cu owner j):=inferInstanceAs (Decidable (_=true))
theorem nu {mask:Nat}{owner:Array (Option Nat)}(h:Int):∀fuel r,(∀m,m<bM mask h r->cu owner (stand (tm mask) h m).j)->(∃r',r≤r'∧r' < r+fuel∧¬cu owner (aP mask h r').1)->
  ∃j n,layClean.free mask owner fuel (aP mask h r).1 (aP mask h r).2=some j∧¬cu owner j∧(stand (tm mask) h n).j=j∧∀m,m<n->cu owner (stand (tm mask) h m).j
 | 0,r,_,⟨r',h1,h2,_⟩=>by omega
 | fuel+1,r,hb,⟨r',h1,h2,h3⟩=>by
  unfold layClean.free
  cases e:(List.range (runEnd mask (aP mask h r).1+1-(aP mask h r).1)).find? fun k=>(owner.getD ((aP mask h r).1+k) (some 0)).isNone with
  | some k=>
   have hk:=List.mem_range.mp (List.mem_of_find?_eq_some e)
   have hr:=jr mask (aP mask h r).1
   have hq:(owner.getD ((aP mask h r).1+k) (some 0)).isNone=true:=List.find?_some (p:=fun k=>(owner.getD ((aP mask h r).1+k) (some 0)).isNone) e
   have sk:=dF (tm mask) h r k (by show k≤runEnd mask (aP mask h r).1-(aP mask h r).1;omega)
   refine⟨_,bM mask h r+k,rfl,?_,by rw[sk],fun m hm=>?_⟩
   ·unfold cu
    intro z
    rw[Option.isNone_iff_eq_none] at hq
    rw[hq] at z
    cases z
   ·rcases Nat.lt_or_ge m (bM mask h r) with y|y
    ·exact hb m y
    ·obtain⟨d,rfl⟩:∃d,m=bM mask h r+d:=⟨m-bM mask h r,by omega⟩
     have sd:=dF (tm mask) h r d (by show d≤runEnd mask (aP mask h r).1-(aP mask h r).1;omega)
     rw[sd]
     show cu owner ((aP mask h r).1+d)
     unfold cu
     have hd:d<k:=by omega
     obtain⟨_,as,bs,e1,e2⟩:=List.find?_eq_some_iff_append.mp e
     have hidx:as.length=k:=by
      have:(List.range (runEnd mask (aP mask h r).1+1-(aP mask h r).1))[as.length]?=some k:=by rw[e1];simp
      rw[List.getElem?_range (by have:=congrArg List.length e1;simp at this;omega)] at this
      exact Option.some.inj this
     have hmem:d∈as:=by
      have:(List.range (runEnd mask (aP mask h r).1+1-(aP mask h r).1))[d]?=some d:=List.getElem?_range (by omega)
      rw[e1,List.getElem?_append_left (by omega)] at this
      exact List.mem_of_getElem? this
     have:=e2 d hmem
     cases z:owner.getD ((aP mask h r).1+d) (some 0) with
     | none=>rw[z] at this;simp at this
     | some _=>rfl
  | none=>
   have all:=List.find?_eq_none.mp e
   have hr:=jr mask (aP mask h r).1
   have tk:∀d,d≤runEnd mask (aP mask h r).1-(aP mask h r).1->cu owner ((aP mask h r).1+d):=fun d hd=>by
    have:=all d (List.mem_range.mpr (by omega))
    unfold cu
    cases z:owner.getD ((aP mask h r).1+d) (some 0) with
    | none=>rw[z] at this;simp at this
    | some _=>rfl
   have ne:r'≠r:=fun z=>h3 (by rw[z];exact tk 0 (Nat.zero_le _))
   refine nu h fuel (r+1) (fun m hm=>?_) ⟨r',by omega,by omega,h3⟩
   rcases Nat.lt_or_ge m (bM mask h r) with y|y
   ·exact hb m y
   ·have hm':m<bM mask h r+(runEnd mask (aP mask h r).1-(aP mask h r).1)+1:=hm
    obtain⟨d,rfl⟩:∃d,m=bM mask h r+d:=⟨m-bM mask h r,by omega⟩
    have sd:=dF (tm mask) h r d (by show d≤runEnd mask (aP mask h r).1-(aP mask h r).1;omega)
    rw[sd]
    exact tk d (by omega)
structure Own (mask:Nat) (hs:List Int) (owner:Array (Option Nat)):Prop where
 size:owner.size=mask+1
 perm:((List.range (mask+1)).filterMap fun j=>owner.getD j none).Perm (List.range hs.length)
 reach:∀j q h,owner[j]?=some (some q)->hs[q]?=some h->∃n,(stand (tm mask) h n).j=j∧∀m,m<n->cu owner (stand (tm mask) h m).j
theorem tK {α β:Type}{f g:α->Option β}:∀{l:List α},(∀a∈l,f a=g a)->l.filterMap f=l.filterMap g
 | [],_=>rfl
 | a::l,h=>by rw[List.filterMap_cons,List.filterMap_cons,h a List.mem_cons_self,tK fun b hb=>h b (List.mem_cons_of_mem _ hb)]
theorem jd {owner:Array (Option Nat)}{j k:Nat}(hj:owner.getD j (some 0)=none):∀(l:List Nat),l.Nodup->j∈l->(∀x∈l,x<owner.size)->
  (l.filterMap fun i=>(owner.setIfInBounds j (some k)).getD i none).Perm ((l.filterMap fun i=>owner.getD i none)++[k])
 | [],_,h,_=>by cases h
 | x::l,nd,h,hs=>by
  rw[List.nodup_cons] at nd
  have hx:=hs x List.mem_cons_self
  by_cases z:x=j
  ·subst z
   have e1:(owner.setIfInBounds x (some k)).getD x none=some k:=by simp[Array.getD,hx]
   have e2:owner.getD x none=none:=by
    simp only[Array.getD,hx,dite_true] at hj ⊢
    exact hj
   have e3:(l.filterMap fun i=>(owner.setIfInBounds x (some k)).getD i none)=l.filterMap fun i=>owner.getD i none:=by
    refine tK fun i hi=>?_
    have ne:x≠i:=fun q=>nd.1 (q▸hi)
    have hi':=hs i (List.mem_cons_of_mem _ hi)
    simp[Array.getD,hi',Array.getElem_setIfInBounds,ne]
   rw[List.filterMap_cons_some (b:=k) (by rw[e1]),List.filterMap_cons_none (by rw[e2]),e3]
   exact(List.perm_append_singleton k _).symm
  ·have hjl:j∈l:=by
    rcases List.mem_cons.mp h with q|q
    ·exact absurd q.symm z
    ·exact q
   have ih:=jd (k:=k) hj l nd.2 hjl fun y hy=>hs y (List.mem_cons_of_mem _ hy)
   have e1:(owner.setIfInBounds j (some k)).getD x none=owner.getD x none:=by
    have ne:j≠x:=fun q=>z q.symm
    simp[Array.getD,hx,Array.getElem_setIfInBounds,ne]
   cases e:owner.getD x none with
   | none=>rw[List.filterMap_cons_none (by rw[e1,e]),List.filterMap_cons_none (by rw[e])];exact ih
   | some v=>rw[List.filterMap_cons_some (b:=v) (by rw[e1,e]),List.filterMap_cons_some (b:=v) (by rw[e])];exact ih.cons v
end Sa
namespace Sa
open PySem PySem.SetTable
theorem nv {owner:Array (Option Nat)}{j k x:Nat}(h:cu owner x):cu (owner.setIfInBounds j (some k)) x:=by
 unfold cu at h ⊢
 rw[Array.getD_eq_getD_getElem?] at h ⊢
 by_cases e:j=x
 ·subst e
  by_cases hx:j<owner.size
  ·rw[Array.getElem?_setIfInBounds_self_of_lt hx];rfl
  ·rw[Array.getElem?_eq_none (by simpa using hx)];rfl
 ·rw[Array.getElem?_setIfInBounds_ne e];exact h
theorem vg {owner:Array (Option Nat)}:∀(l:List Nat),(∀x∈l,cu owner x∧x<owner.size)->(l.filterMap fun j=>owner.getD j none).length=l.length
 | [],_=>rfl
 | x::l,h=>by
  obtain⟨h1,h2⟩:=h x List.mem_cons_self
  unfold cu at h1
  simp only[Array.getD,h2,dite_true] at h1
  obtain⟨v,e⟩:=Option.isSome_iff_exists.mp h1
  rw[List.filterMap_cons_some (b:=v) (by simp[Array.getD,h2];exact e),List.length_cons,List.length_cons,vg l fun y hy=>h y (List.mem_cons_of_mem _ hy)]
theorem xa {mask:Nat}{hs:List Int}{owner:Array (Option Nat)}(M:Mk mask) (O:Own mask hs owner) (h:Int) (hl:hs.length≤mask) :
  ∃j,layClean.free mask owner (turns mask) (bits h % (mask+1)) (bits h)=some j∧Own mask (hs++[h]) (owner.setIfInBounds j (some hs.length)):=by
 have sz:=O.size
 obtain⟨e,he,hn⟩:∃e,e<mask+1∧¬cu owner e:=by
  refine Classical.byContradiction fun z=>?_
  have all:∀x∈List.range (mask+1),cu owner x∧x<owner.size:=fun x hx=>by
   have hx:=List.mem_range.mp hx
   exact⟨Classical.byContradiction fun y=>z ⟨x,hx,y⟩,by omega⟩
  have h1:=vg _ all
  have h2:=O.perm.length_eq
  rw[h1,List.length_range,List.length_range] at h2
  omega
 obtain⟨r,hr,er⟩:=x9 (tm mask) h M he
 obtain⟨j,n,f1,f2,f3,f4⟩:=nu (mask:=mask) (owner:=owner) h (turns mask) 0 (fun m hm=>absurd hm (Nat.not_lt_zero _)) ⟨r,Nat.zero_le _,by
  have:r<mask+14:=hr
  unfold turns
  omega,by
  have er:(aP mask h r).1=e:=er
  rw[er];exact hn⟩
 have hj:owner.getD j (some 0)=none:=by
  unfold cu at f2
  cases z:owner.getD j (some 0) with
  | none=>rfl
  | some v=>rw[z] at f2;exact absurd rfl f2
 have hjs:j<owner.size:=by
  refine Classical.byContradiction fun z=>?_
  simp[Array.getD,z] at hj
 refine⟨j,f1,by rw[Array.size_setIfInBounds];exact sz,?_,fun j' q h' e1 e2=>?_⟩
 ·have p:=jd (k:=hs.length) hj (List.range (mask+1)) List.nodup_range (List.mem_range.mpr (by omega)) fun x hx=>by have:=List.mem_range.mp hx;omega
  refine p.trans ?_
  rw[List.length_append,List.length_singleton]
  have er:List.range (hs.length+1)=List.range hs.length++[hs.length]:=List.range_succ
  rw[er]
  exact O.perm.append_right _
 ·by_cases z:j=j'
  ·subst z
   rw[Array.getElem?_setIfInBounds_self_of_lt hjs] at e1
   have:hs.length=q:=by
    injection e1 with e1
    injection e1
   subst this
   rw[List.getElem?_append_right (Nat.le_refl _)] at e2
   simp at e2
   subst e2
   exact⟨n,f3,fun m hm=>nv (f4 m hm)⟩
  ·rw[Array.getElem?_setIfInBounds_ne z] at e1
   have hq:q<hs.length:=by
    have hj':j' < owner.size:=by
     obtain⟨w,_⟩:=Array.getElem?_eq_some_iff.mp e1
     exact w
    have:q∈(List.range (mask+1)).filterMap fun j=>owner.getD j none:=by
     rw[List.mem_filterMap]
     refine⟨j',List.mem_range.mpr (by omega),?_⟩
     have:=(Array.getElem?_eq_some_iff.mp e1).2
     simp[Array.getD,hj',this]
    exact List.mem_range.mp (O.perm.mem_iff.mp this)
   rw[List.getElem?_append_left hq] at e2
   obtain⟨m,g1,g2⟩:=O.reach j' q h' e1 e2
   exact⟨m,g1,fun k hk=>nv (g2 k hk)⟩
theorem xf (mask:Nat):Own mask [] (Array.replicate (mask+1) none):=by
 refine⟨by simp,?_,fun j q h e=>?_⟩
 ·have:((List.range (mask+1)).filterMap fun j=>(Array.replicate (mask+1) (none:Option Nat)).getD j none)=[]:=by
   rw[List.filterMap_eq_nil_iff]
   intro a _
   simp only[Array.getD]
   split <;> simp
  rw[this]
  exact List.Perm.refl _
 ·rw[Array.getElem?_eq_some_iff] at e
  obtain⟨_,e⟩:=e
  simp at e
theorem pM {mask:Nat}(M:Mk mask):∀(rest done:List Int) (owner:Array (Option Nat)),Own mask done owner->(done++rest).length≤mask->
  ∃owner',(rest.foldl (fun(acc:Option (Array (Option Nat)×Nat)) h=>do
   let (owner,k) ←acc
   let j ←layClean.free mask owner (turns mask) (bits h % (mask+1)) (bits h)
   pure (owner.setIfInBounds j (some k),k+1)) (some (owner,done.length)))=some (owner',(done++rest).length)∧Own mask (done++rest) owner'
 | [],done,owner,O,_=>⟨owner,by simp,by rw[List.append_nil];exact O⟩
 | h::rest,done,owner,O,hl=>by
  simp only[List.length_append,List.length_cons] at hl
  obtain⟨j,e,O'⟩:=xa M O h (by omega)
  obtain⟨owner',e',O''⟩:=pM M rest (done++[h]) _ O' (by simp;omega)
  refine⟨owner',?_,by rw[List.append_assoc] at O'';exact O''⟩
  rw[List.foldl_cons]
  have:(do
   let (owner,k) ←some (owner,done.length)
   let j ←layClean.free mask owner (turns mask) (bits h % (mask+1)) (bits h)
   pure (owner.setIfInBounds j (some k),k+1))=some (owner.setIfInBounds j (some done.length),done.length+1):=by
   simp[e]
  rw[this]
  rw[List.length_append,List.length_singleton] at e'
  rw[e']
  simp
theorem xg {mask:Nat}(M:Mk mask) (hs:List Int) (hl:hs.length≤mask):∃owner,layClean mask hs.toArray=some owner∧Own mask hs owner:=by
 obtain⟨owner,e,O⟩:=pM M hs [] _ (xf mask) (by simpa using hl)
 refine⟨owner,?_,by simpa using O⟩
 unfold layClean
 rw[←Array.foldl_toList]
 have e:List.foldl _ (some (Array.replicate (mask+1) none,0)) hs=_:=e
 rw[e]
 rfl
def cF (mask:Nat) (owner:Array (Option Nat)):List (Nat×Nat):=(List.range (mask+1)).filterMap fun j=>(owner.getD j none).map (j,·)
theorem jt {mask:Nat}{owner:Array (Option Nat)}{x:Nat×Nat}(sz:owner.size=mask+1):x∈cF mask owner↔owner[x.1]?=some (some x.2):=by
 unfold cF
 rw[List.mem_filterMap]
 constructor
 ·rintro⟨j,hj,e⟩
  have hj':j<owner.size:=by have:=List.mem_range.mp hj;omega
  obtain⟨v,e1,e2⟩:=Option.map_eq_some_iff.mp e
  subst e2
  rw[Array.getElem?_eq_getElem hj']
  simp only[Array.getD,hj',dite_true] at e1
  rw[←e1]
  rfl
 ·intro e
  obtain⟨h1,h2⟩:=Array.getElem?_eq_some_iff.mp e
  refine⟨x.1,List.mem_range.mpr (by omega),?_⟩
  have:owner.getD x.1 none=some x.2:=by simp[Array.getD,h1,h2]
  rw[this]
  rfl
theorem vh (mask:Nat) (owner:Array (Option Nat)):(cF mask owner).map (·.2)=(List.range (mask+1)).filterMap fun j=>owner.getD j none:=by
 unfold cF
 rw[List.map_filterMap]
 refine tK fun j _=>?_
 cases owner.getD j none <;> rfl
theorem rV {f:Nat->Option (Nat×Nat)}(hf:∀j x,f j=some x->x.1=j):∀(l:List Nat),l.Pairwise (· < ·)->((l.filterMap f).map (·.1)).Pairwise (· < ·)
 | [],_=>List.Pairwise.nil
 | a::l,h=>by
  rw[List.pairwise_cons] at h
  have ih:=rV hf l h.2
  cases e:f a with
  | none=>rw[List.filterMap_cons_none e];exact ih
  | some x=>
   rw[List.filterMap_cons_some e,List.map_cons,List.pairwise_cons]
   refine⟨fun b hb=>?_,ih⟩
   obtain⟨y,hy,rfl⟩:=List.mem_map.mp hb
   obtain⟨c,hc,ec⟩:=List.mem_filterMap.mp hy
   rw[hf a x e,hf c y ec]
   exact h.1 c hc
theorem tL (mask:Nat) (owner:Array (Option Nat)):((cF mask owner).map (·.1)).Pairwise (· < ·):=by
 unfold cF
 refine rV (fun j x e=>?_) _ List.pairwise_lt_range
 obtain⟨v,_,e2⟩:=Option.map_eq_some_iff.mp e
 rw[←e2]
theorem vi {α:Type}{g:Nat->Option α}:∀(l:List (Nat×Nat)),(∀x∈l,∃a,g x.2=some a)->(l.map (·.1)).zip ((l.map (·.2)).filterMap g)=l.filterMap (fun x=>(g x.2).map (x.1,·))∧((l.map (·.2)).filterMap g).length=l.length
 | [],_=>⟨rfl,rfl⟩
 | x::l,h=>by
  obtain⟨a,ha⟩:=h x List.mem_cons_self
  obtain⟨i1,i2⟩:=vi l fun y hy=>h y (List.mem_cons_of_mem _ hy)
  rw[List.map_cons,List.map_cons,List.filterMap_cons_some ha,List.filterMap_cons_some (b:=(x.1,a)) (by rw[ha];rfl),List.zip_cons_cons,i1]
  exact⟨rfl,by rw[List.length_cons,List.length_cons,i2]⟩
theorem laid_ok {mask finger moves:Nat}{led plain:Bool}(M:Mk mask) (es:Array Elem) (hl:es.size≤mask) :
  ∃t order,laid mask finger moves led plain (es.map (·.1))=some (t,order)∧t.mask=mask∧t.plain=plain∧t.led=led∧(order.filterMap (es[·]?)).size=es.size∧(order.filterMap (es[·]?)).toList.Perm es.toList∧Full t (order.filterMap (es[·]?)):=by
 obtain⟨owner,e,O⟩:=xg M (es.toList.map (·.1)) (by rw[List.length_map,Array.length_toList];exact hl)
 have eh:(es.toList.map (·.1)).toArray=es.map (·.1):=by
  apply Array.toList_inj.mp
  rw[Array.toList_map]
 rw[eh] at e
 have ho:((cF mask owner).map (·.2)).Perm (List.range es.size):=by
  rw[vh]
  have:=O.perm
  simpa using this
 refine⟨{ mask,place:=((cF mask owner).map (·.1)).toArray,dummies:=#[],finger,led,moves,plain },((cF mask owner).map (·.2)).toArray,?_,rfl,rfl,rfl,?_⟩
 ·unfold laid
  rw[e]
  rfl
 have perm:(((cF mask owner).map (·.2)).toArray.filterMap (es[·]?)).toList.Perm es.toList:=by
  rw[Array.toList_filterMap]
  exact(ho.filterMap _).trans (by rw[filterMap_getElem?_range])
 have some_:∀x∈cF mask owner,∃a,es[x.2]?=some a:=fun x hx=>by
  have:x.2∈(cF mask owner).map (·.2):=List.mem_map.mpr ⟨x,hx,rfl⟩
  have:=List.mem_range.mp (ho.mem_iff.mp this)
  exact⟨es[x.2],Array.getElem?_eq_getElem this⟩
 obtain⟨z1,z2⟩:=vi (g:=fun i=>es[i]?) (cF mask owner) some_
 refine⟨?_,perm,⟨M,tL mask owner,fun j hj=>?_,rfl⟩,?_,fun x hx=>?_⟩
 ·rw[←Array.length_toList,perm.length_eq,Array.length_toList]
 ·have hj:j∈(cF mask owner).map (·.1):=hj
  obtain⟨x,hx,rfl⟩:=List.mem_map.mp hj
  rw[jt O.size] at hx
  obtain⟨w,_⟩:=Array.getElem?_eq_some_iff.mp hx
  have:=O.size
  show x.1≤mask
  omega
 ·show((cF mask owner).map (·.1)).toArray.size=_
  rw[List.size_toArray,List.length_map,←Array.length_toList,Array.toList_filterMap]
  exact z2.symm
 ·rw[Array.toList_filterMap] at hx
  have hx:x∈((cF mask owner).map (·.1)).zip (((cF mask owner).map (·.2)).filterMap fun i=>es[i]?):=hx
  rw[z1,List.mem_filterMap] at hx
  obtain⟨y,hy,e1⟩:=hx
  obtain⟨a,e2,e3⟩:=Option.map_eq_some_iff.mp e1
  subst e3
  have hq:(es.toList.map (·.1))[y.2]?=some a.1:=by
   rw[List.getElem?_map,Array.getElem?_toList,e2]
   rfl
  obtain⟨n,g1,g2⟩:=O.reach y.1 y.2 a.1 ((jt O.size).mp hy) hq
  refine⟨tm mask,n,rfl,g1,fun m hm=>?_⟩
  show(stand (tm mask) a.1 m).j∈(cF mask owner).map (·.1)
  have tk:=g2 m hm
  have lt:(stand (tm mask) a.1 m).j<mask+1:=pL (tm mask) a.1 m
  have lt':(stand (tm mask) a.1 m).j<owner.size:=by rw[O.size];exact lt
  unfold cu at tk
  simp only[Array.getD,lt',dite_true] at tk
  obtain⟨v,ev⟩:=Option.isSome_iff_exists.mp tk
  refine List.mem_map.mpr ⟨((stand (tm mask) a.1 m).j,v),(jt O.size).mpr ?_,rfl⟩
  rw[Array.getElem?_eq_getElem lt']
  exact congrArg some ev
end Sa
namespace L2
open PySem PySem.Spec PyProof.Rows PySem.SetTable
theorem vj (a:Addr) (x:Value) (h:Int) (adding:Bool) (fuel:Nat) (st:Option Probe):setSearchFrom a x h adding (fuel+1) st=(do
  let (es,_,t) ←setState a
  if t.gaveWay then unsupported "set:on-a-table-that-gave-way"
  let some met:=t.probe (fun i=>(es[i]?.map (·.1)).getD 0) h (st.getD (t.probeStart h))|unsupported "internal:set-table-without-an-empty-slot"
  match met with
  | .empty j dummy=>
   match dummy with
   | none=>return .free j false
   | some d=>
    if adding&&t.slot d != .dummy then rule "set.search.the-dummy-was-taken";return ←setSearchFrom a x h adding fuel none
    return .free d true
  | .candidate j i next=>
   if !t.led then
    if ←searchCouldBeSeen x ((es.filter (·.1==h)).toList.map (·.2)) then unsupported "set:the-search-would-show-the-table"
   let some (_,y):=es[i]? | unsupported "internal:set-entry"
   let equal ←holding [y] (eqBool y x)
   let (es',_,t') ←setState a
   if adding&&equal then return .there none
   let some same:=t'.sameMemory t.moves t.mask|unsupported "set.changed-during-lookup:is-the-new-block-at-the-old-address"
   let still ←match (if same then t'.slot j else .empty) with
    | .live i'=>match es'[i']? with
     | some (_,y')=>do pure (if ←isSame y' y then some i' else none)
     | none=>pure none
    | _=>pure none
   match still with
   | none=>rule "set.search.anew";setSearchFrom a x h adding fuel none
   | some i'=>if equal then return .there (some i') else setSearchFrom a x h adding fuel (some next)):=rfl
section
variable {t:SetTable}{H:Nat->Int}{h:Int}{N:Nat}
theorem rW (T:Sa.Tab t) (hN:(Sa.stand t h N).j∉t.place.toList) (hb:∀m,m<N->(Sa.stand t h m).j∈t.place.toList):∀fuel m,m≤N->N-m<fuel->
  ∃m',m≤m'∧m'≤N∧((m'=N∧probe.go t H h fuel (Sa.stand t h m)=some (.empty (Sa.stand t h N).j none))∨
   (m' < N∧∃i,t.place[i]?=some (Sa.stand t h m').j∧H i=h∧probe.go t H h fuel (Sa.stand t h m)=some (.candidate (Sa.stand t h m').j i (Sa.stand t h (m'+1)))))∧
   ∀q,m≤q->q<m'->∀i,t.place[i]?=some (Sa.stand t h q).j->H i≠h
 | 0,m,_,h2=>by omega
 | fuel+1,m,h1,h2=>by
  rcases Nat.lt_or_ge m N with z|z
  ·obtain⟨i,hi⟩:=Sa.mem_at (hb m z)
   have sl:=Sa.slot_some T hi
   have uniq:∀i',t.place[i']?=some (Sa.stand t h m).j->i'=i:=fun i' hi'=>by
    have:=Sa.slot_some T hi'
    rw[sl] at this
    cases this
    rfl
   by_cases e:H i=h
   ·refine⟨m,Nat.le_refl _,h1,.inr ⟨z,i,hi,e,?_⟩,fun q a b=>by omega⟩
    unfold probe.go
    rw[sl]
    simp only[e,beq_self_eq_true,if_true]
    rfl
   ·obtain⟨m',a1,a2,a3,a4⟩:=rW T hN hb fuel (m+1) z (by omega)
    have eg:probe.go t H h (fuel+1) (Sa.stand t h m)=probe.go t H h fuel (Sa.stand t h (m+1)):=by
     rw[probe.go,sl]
     have:(H i==h)=false:=by simpa using e
     simp only[this,Bool.false_eq_true,if_false]
     rfl
    refine⟨m',by omega,a2,?_,fun q b1 b2 i' hi'=>?_⟩
    ·rw[eg];exact a3
    ·rcases Nat.lt_or_ge m q with y|y
     ·exact a4 q (by omega) b2 i' hi'
     ·obtain rfl:q=m:=by omega
      rw[uniq i' hi']
      exact e
  ·obtain rfl:m=N:=by omega
   refine⟨m,Nat.le_refl _,Nat.le_refl _,.inl ⟨rfl,?_⟩,fun q a b=>by omega⟩
   unfold probe.go
   rw[Sa.slot_none T hN,Sa.stand_dummy]
end
structure EKind (prog:Program) (w:World) (K:Type) [DecidableEq K] where
 knd:HeapKind prog w K
 byVal:∀{A:Around}{E:Value->Shared->Prop}{s:Shared}{k:K}{a:Addr}{Q:Bool->Shared->Prop},knd.is s.heap k a->Q true s->wpAny (model prog w) A (hashByValue 8 (.ref a)) Q E s
 noCls:∀{A:Around}{E:Value->Shared->Prop}{s:Shared}{k:K}{a:Addr}{Q:Bool->Shared->Prop},knd.is s.heap k a->Q false s->wpAny (model prog w) A (ofAClassStatement 8 (.ref a)) Q E s
 keep:∀{h h':Heap}{k:K}{a:Addr},knd.is h k a->(∀b o,o.cls=.type "tuple"->h.get? b=some o->h'.get? b=some o)->knd.is h' k a
section
variable {prog:Program}{w:World}{K:Type} [DecidableEq K] {A:Around}{E:Value->Shared->Prop}{s:Shared}{X:EKind prog w K}
def El (X:EKind prog w K) (h:Heap) (e:Sa.Elem) (k:K):Prop:=∃b,e.2=.ref b∧X.knd.is h k b∧e.1=X.knd.hash k
structure SetAt (X:EKind prog w K) (h:Heap) (a:Addr) (o:Obj) (es:Array Sa.Elem) (ep:Nat) (t:SetTable) (ks:List K):Prop where
 ob:h.get? a=some o
 ex:o.ExactSet
 dt:o.data=.set es ep t
 full:Sa.Full t es
 few:t.place.size*5<t.mask*3
 pl:t.plain=true
 el:Paired (El X h) es.toList ks
 nd:ks.Nodup
theorem SetAt.fits {a:Addr}{o:Obj}{es:Array Sa.Elem}{ep:Nat}{t:SetTable}{ks:List K}(S:SetAt X s.heap a o es ep t ks):t.fits es.size=true:=by
 unfold SetTable.fits SetTable.fill
 rw[S.full.tab.nod,S.full.size]
 have:=S.few
 rw[S.full.size] at this
 simp
 omega
theorem odd {m:Nat}(h:Sa.Mk m):(m % 2==0)=false:=by rcases h with rfl|rfl|rfl <;> rfl
theorem tM {x:Addr}{k:K}(hx:X.knd.is s.heap k x):∀(l:List Value) {Q:Bool->Shared->Prop},(∀v∈l,∃b k',v=.ref b∧X.knd.is s.heap k' b)->Q false s->wpAny (model prog w) A (searchCouldBeSeen (.ref x) l) Q E s:=by
 intro l Q hl h
 unfold searchCouldBeSeen
 refine wpAny_bind (wpAny_forIn_list _ (fun rest r s'=>r.1=none∧s'=s∧∀v∈rest,∃b k',v=.ref b∧X.knd.is s.heap k' b) _ ?turn ?fin _ _ ⟨rfl,rfl,hl⟩)
 case turn=>
  rintro v rest ⟨r1,r2⟩ s' ⟨hr,e,hall⟩
  simp only at hr
  subst e hr
  obtain⟨b,k',rfl,hb⟩:=hall v List.mem_cons_self
  have hall':∀u∈rest,∃b k',u=.ref b∧X.knd.is s'.heap k' b:=fun u hu=>hall u (List.mem_cons_of_mem _ hu)
  dsimp only
  by_cases z:((x==b)||(carriedByValue (.ref x)&&carriedByValue (.ref b)))=true
  ·rw[if_pos z]
   exact wpAny_pure ⟨rfl,rfl,hall'⟩
  ·rw[if_neg z]
   refine wpAny_bind (X.knd.quiet hx ?_)
   simp only[Bool.not_true,Bool.false_eq_true,if_false]
   refine wpAny_bind (X.knd.quiet hb ?_)
   simp only[Bool.not_true,Bool.false_eq_true,if_false]
   refine wpAny_bind (X.noCls hx ?_)
   simp only[Bool.false_eq_true,if_false]
   refine wpAny_bind (X.noCls hb ?_)
   simp only[Bool.false_eq_true,if_false]
   exact wpAny_pure ⟨rfl,rfl,hall'⟩
 case fin=>
  rintro⟨r1,r2⟩ s' ⟨hr,e,_⟩
  simp only at hr
  subst e hr
  exact wpAny_pure h
end
end L2
namespace L2
open PySem PySem.Spec PyProof.Rows PySem.SetTable
section
variable {prog:Program}{w:World}{K:Type} [DecidableEq K] {A:Around}{E:Value->Shared->Prop}{s:Shared}{X:EKind prog w K}{a:Addr}{o:Obj}{es:Array Sa.Elem}{ep:Nat}{t:SetTable}{ks:List K}
theorem ya (S:SetAt X s.heap a o es ep t ks) {i j:Nat}(h:t.place[i]?=some j):∃e k,es[i]?=some e∧ks[i]?=some k∧El X s.heap e k:=by
 have hi:i<es.size:=by
  have:=(Array.getElem?_eq_some_iff.mp h).1
  rw[S.full.size] at this
  exact this
 obtain⟨k,hk,el⟩:=cw (i:=i) (a:=es[i]) S.el (by simp[hi])
 exact⟨es[i],k,Array.getElem?_eq_getElem hi,hk,el⟩
theorem AN (S:SetAt X s.heap a o es ep t ks) {k:K}{N:Nat}(hk:k∈ks) (hN:(Sa.stand t (X.knd.hash k) N).j∉t.place.toList):∃(n i:Nat),n<N∧t.place[i]?=some (Sa.stand t (X.knd.hash k) n).j∧ks[i]?=some k:=by
 obtain⟨i,hi,e⟩:=List.mem_iff_getElem.mp hk
 have hki:ks[i]?=some k:=by rw[List.getElem?_eq_getElem hi,e]
 obtain⟨el,hel,b,e1,e2,e3⟩:=dN S.el hki
 have hes:es[i]?=some el:=by rw[←Array.getElem?_toList];exact hel
 have his:i<t.place.size:=by
  rw[S.full.size]
  exact(Array.getElem?_eq_some_iff.mp hes).1
 have hp:t.place[i]?=some t.place[i]:=Array.getElem?_eq_getElem his
 have hz:(t.place[i],el)∈t.place.toList.zip es.toList:=by
  rw[List.mem_iff_getElem?]
  refine⟨i,?_⟩
  rw[List.getElem?_zip_eq_some]
  exact⟨by simpa using hp,hel⟩
 obtain⟨n,r1,r2⟩:=(S.full.reach _ hz).at
 have e3':el.1=X.knd.hash k:=e3
 dsimp only at r1 r2
 rw[e3'] at r1 r2
 refine⟨n,i,?_,by rw[r1];exact hp,hki⟩
 rcases Nat.lt_trichotomy n N with z|z|z
 ·exact z
 ·subst z
  rw[r1] at hN
  exact absurd (by simp) hN
 ·exact absurd (r2 N z) hN
theorem rh (S:SetAt X s.heap a o es ep t ks) {k:K}{b:Addr}{N:Nat}{Q:SetFound->Shared->Prop}(hr:X.knd.room A) (hb:X.knd.is s.heap k b) (hN:(Sa.stand t (X.knd.hash k) N).j∉t.place.toList) (hlt:∀m,m<N->(Sa.stand t (X.knd.hash k) m).j∈t.place.toList) (hfar:N<10*(t.mask+14))
  (h1:k∈ks->Q (.there none) s) (h2:k∉ks->Q (.free (Sa.stand t (X.knd.hash k) N).j false) s) :
  ∀d m fuel (st:Option Probe),N-m=d->m≤N->d<fuel->st.getD (t.probeStart (X.knd.hash k))=Sa.stand t (X.knd.hash k) m->(∀q,q<m->∀i:Nat,t.place[i]?=some (Sa.stand t (X.knd.hash k) q).j->ks[i]?≠some k)->
   wpAny (model prog w) A (setSearchFrom a (.ref b) (X.knd.hash k) true fuel st) Q E s:=by
 intro d
 induction d using Nat.strongRecOn with
 | ind d ih=>
  intro m fuel st hd hm hf hst pre
  obtain⟨fuel,rfl⟩:∃f,fuel=f+1:=⟨fuel-1,by omega⟩
  rw[vj]
  refine wpAny_bind (wpAny_setState_of S.ob S.dt S.fits ?_)
  dsimp only
  rw[if_neg (by unfold SetTable.gaveWay;rw[odd S.full.tab.msk];exact Bool.false_ne_true)]
  obtain⟨m',a1,a2,a3,a4⟩:=rW (H:=fun i=>(es[i]?.map (·.1)).getD 0) S.full.tab hN hlt (10*turns t.mask) m hm (by unfold turns;omega)
  have hne:∀q,m≤q->q<m'->∀i:Nat,t.place[i]?=some (Sa.stand t (X.knd.hash k) q).j->ks[i]?≠some k:=fun q b1 b2 i hi z=>by
   obtain⟨e,k',c1,c2,_,_,_,c3⟩:=ya S hi
   have:=a4 q b1 b2 i hi
   rw[c2] at z
   cases z
   simp[c1] at this
   exact this c3
  rw[hst]
  unfold probe
  rcases a3 with⟨e0,eg⟩|⟨lt,i,hi,hh,eg⟩
  ·rw[eg]
   subst e0
   refine wpAny_pure (h2 fun hk=>?_)
   obtain⟨n,i,n1,n2,n3⟩:=AN S hk hN
   rcases Nat.lt_or_ge n m with z|z
   ·exact pre n z i n2 n3
   ·exact hne n z n1 i n2 n3
  ·rw[eg]
   obtain⟨e,k',c1,c2,c,c3,c4,c5⟩:=ya S hi
   obtain⟨eh,ev⟩:=e
   dsimp only at c3 c5
   subst c3
   dsimp only
   have body:wpAny (model prog w) A (do
     let some (_,y):=es[i]? | unsupported "internal:set-entry"
     let equal ←holding [y] (eqBool y (.ref b))
     let (es',_,t') ←setState a
     if true&&equal then return .there none
     let some same:=t'.sameMemory t.moves t.mask|unsupported "set.changed-during-lookup:is-the-new-block-at-the-old-address"
     let still ←match (if same then t'.slot (Sa.stand t (X.knd.hash k) m').j else .empty) with
      | .live i'=>match es'[i']? with
       | some (_,y')=>do pure (if ←isSame y' y then some i' else none)
       | none=>pure none
      | _=>pure none
     match still with
     | none=>rule "set.search.anew";setSearchFrom a (.ref b) (X.knd.hash k) true fuel none
     | some i'=>if equal then return .there (some i') else setSearchFrom a (.ref b) (X.knd.hash k) true fuel (some (Sa.stand t (X.knd.hash k) (m'+1)))) Q E s:=by
    rw[c1]
    dsimp only
    refine wpAny_bind (wpAny_holding (X.knd.eqBool hr c4 hb (wpAny_bind (wpAny_setState_of S.ob S.dt S.fits ?_))))
    dsimp only
    by_cases z:k'=k
    ·subst z
     rw[decide_eq_true rfl]
     exact wpAny_pure (h1 (List.mem_of_getElem? c2))
    ·rw[decide_eq_false z]
     simp only[Bool.and_false,Bool.false_eq_true,if_false]
     have sm:t.sameMemory t.moves t.mask=some true:=by unfold sameMemory;simp
     rw[sm]
     dsimp only
     rw[if_pos rfl,Sa.slot_some S.full.tab hi]
     dsimp only
     rw[c1]
     dsimp only
     refine wpAny_bind (wpAny_isSame_ref_self (wpAny_bind (wpAny_pure ?_)))
     rw[if_pos rfl]
     dsimp only
     refine ih (N-(m'+1)) (by omega) (m'+1) fuel _ rfl (by omega) (by omega) rfl fun q hq i' hi'=>?_
     rcases Nat.lt_or_ge q m with y|y
     ·exact pre q y i' hi'
     ·rcases Nat.lt_or_ge q m' with x|x
      ·exact hne q y x i' hi'
      ·obtain rfl:q=m':=by omega
       have e1:=Sa.slot_some S.full.tab hi
       have e2:=Sa.slot_some S.full.tab hi'
       rw[e1] at e2
       cases e2
       rw[c2]
       intro w'
       cases w'
       exact z rfl
   cases hled:t.led with
   | true=>
    simp only[hled,Bool.not_true,Bool.false_eq_true,if_false]
    exact body
   | false=>
    simp only[hled,Bool.not_false,if_true]
    refine wpAny_bind (tM hb _ (fun v hv=>?_) ?_)
    ·obtain⟨x,hx,rfl⟩:=List.mem_map.mp hv
     have hx':x∈es.toList:=by
      rw[Array.toList_filter] at hx
      exact(List.mem_filter.mp hx).1
     obtain⟨k2,_,b2,e2,g2,_⟩:=eO S.el x hx'
     exact⟨b2,k2,e2,g2⟩
    ·simp only[Bool.false_eq_true,if_false]
     exact body
theorem vk (S:SetAt X s.heap a o es ep t ks) {k:K}{b:Addr}{Q:SetFound->Shared->Prop}(hr:X.knd.room A) (hb:X.knd.is s.heap k b) (h1:k∈ks->Q (.there none) s)
  (h2:k∉ks->∀N,(Sa.stand t (X.knd.hash k) N).j∉t.place.toList->(∀m,m<N->(Sa.stand t (X.knd.hash k) m).j∈t.place.toList)->Q (.free (Sa.stand t (X.knd.hash k) N).j false) s):wpAny (model prog w) A (setSearch a (.ref b) (X.knd.hash k) true) Q E s:=by
 obtain⟨N,n1,n2,n3⟩:=Sa.meets S.full.tab (X.knd.hash k) (by have:=S.few;omega)
 have hm:t.mask≤127:=by rcases S.full.tab.msk with e|e|e <;> omega
 exact rh S hr hb n2 n3 n1 h1 (fun z=>h2 z N n2 n3) N 0 100000 none rfl (Nat.zero_le _) (by omega) rfl fun q hq=>absurd hq (Nat.not_lt_zero _)
end
end L2
namespace L2
open PySem PySem.Spec PyProof.Rows PySem.SetTable
theorem xh (a:Addr) (x:Value) (h:Int) (fuel:Nat):setAddHashedIn a x h (fuel+1)=(do
  let (es₀,_,t₀) ←setState a
  if byScan x es₀ then
   match ←setAddByScan a x h es₀ t₀ with
   | some added=>return added
   | none=>return ←setAddHashedIn a x h fuel
  let .free slot wasDummy ←setSearch a x h (adding:=true)|return false
  let (es,_,t) ←setState a
  let (t,p):=t.put slot
  let byValue ←if t.plain then hashByValue 8 x else pure true
  let t:=if byValue then t else { t with plain:=false }
  storeSet a (SetTable.insertAt es p (h,x)) t
  if !wasDummy&&t.tooFull then setRelay a (SetTable.grown (es.size+1))
  return true):=rfl
theorem xk (a:Addr) (wanted:Nat):setRelay a wanted=(do
  let (es,_,t) ←setState a
  if SetTable.sizeAbove wanted > sizeLine then unsupported "set:memory"
  let (es,t) ←(do
   let some (t,order):=t.relaid (es.map (·.1)) wanted|unsupported "internal:set-table-without-room"
   let es':=order.filterMap (es[·]?)
   if es'.size != es.size then unsupported "internal:set-table-lost-an-element"
   pure (es',t):Sem (Array (Int×Value)×SetTable))
  storeSet a es t):=rfl
theorem kz {α β:Type}{R:α->β->Prop}{l l':List α}(p:l'.Perm l):∀{m:List β},Paired R l m->∃m',Paired R l' m'∧m'.Perm m:=by
 induction p with
 | nil=>intro m r;exact⟨m,r,List.Perm.refl _⟩
 | cons x _ ih=>
  intro m r
  cases r with
  | cons h t=>
   obtain⟨m',r',p'⟩:=ih t
   exact⟨_,.cons h r',p'.cons _⟩
 | swap x y l=>
  intro m r
  cases r with
  | cons h1 t=>
   cases t with
   | cons h2 t=>exact⟨_,.cons h2 (.cons h1 t),List.Perm.swap _ _ _⟩
 | trans _ _ ih1 ih2=>
  intro m r
  obtain⟨m1,r1,p1⟩:=ih2 r
  obtain⟨m2,r2,p2⟩:=ih1 r1
  exact⟨m2,r2,p2.trans p1⟩
section
variable {prog:Program}{w:World}{K:Type} [DecidableEq K] {A:Around}{E:Value->Shared->Prop}{s:Shared}{X:EKind prog w K}{a:Addr}{o:Obj}{es:Array Sa.Elem}{ep:Nat}{t:SetTable}{ks:List K}
theorem jX {h h':Heap}{e:Sa.Elem}{k:K}(x:El X h e k) (kp:∀b o,o.cls=.type "tuple"->h.get? b=some o->h'.get? b=some o):El X h' e k:=
 let ⟨b,e1,e2,e3⟩:=x;⟨b,e1,X.keep e2 kp,e3⟩
theorem ny {h:Heap}(ho:h.get? a=some o) (hx:o.ExactSet) (hd:o.data=.set es ep t) (es':Array Sa.Elem) (t':SetTable) :
  (h.update a (Obj.putSet es' t')).get? a=some { o with data:=.set es' (ep+1) t' }∧(∀b u,b≠a->h.get? b=some u->(h.update a (Obj.putSet es' t')).get? b=some u)∧∀b u,u.cls=.type "tuple"->h.get? b=some u->(h.update a (Obj.putSet es' t')).get? b=some u:=by
 have ot:∀b u,b≠a->h.get? b=some u->(h.update a (Obj.putSet es' t')).get? b=some u:=fun b u hb q=>(Heap.get?_update_other _ _ (Ne.symm hb)).trans q
 refine⟨?_,ot,fun b u hc q=>ot b u ?_ q⟩
 ·have z:=Heap.get?_update_self (Obj.putSet es' t') ho (by rw[putSet_of es' t' hd];rfl)
  rw[putSet_of es' t' hd] at z
  exact z
 ·rintro rfl
  rw[ho] at q
  cases q
  rw[hx.1] at hc
  injection hc with hc
  exact absurd hc (by decide)
def DJ (X:EKind prog w K) (a:Addr) (k:K) (ks:List K) (led:Bool) (h h':Heap):Prop:=
 (∀b u,b≠a->h.get? b=some u->h'.get? b=some u)∧∃o es ep t ks',SetAt X h' a o es ep t ks'∧t.led=led∧(k∈ks->ks'=ks)∧(k∉ks->ks'.Perm (k::ks))
theorem xl {Q:Unit->Shared->Prop}{o:Obj}{es:Array Sa.Elem}{ep:Nat}{t:SetTable}{ks:List K}(ho:s.heap.get? a=some o) (hx:o.ExactSet) (hd:o.data=.set es ep t) (F:Sa.Full t es) (hle:t.place.size≤t.mask) (pl:t.plain=true)
  (el:Paired (El X s.heap) es.toList ks) (nd:ks.Nodup) {n M:Nat}(hM:Sa.Mk M) (hz:sizeAbove n=M+1) (hs:es.size*5<M*3)
  (h:∀h',(∀b u,b≠a->s.heap.get? b=some u->h'.get? b=some u)->(∃o es ep t' ks',SetAt X h' a o es ep t' ks'∧t'.led=t.led∧ks'.Perm ks)->Q () { s with heap:=h' }):wpAny (model prog w) A (setRelay a n) Q E s:=by
 have hf:t.fits es.size=true:=by
  unfold SetTable.fits SetTable.fill
  rw[F.tab.nod,F.size]
  rw[F.size] at hle
  simp
  exact hle
 rw[xk]
 refine wpAny_bind (wpAny_setState_of ho hd hf ?_)
 dsimp only
 have hM':M≤127:=by rcases hM with e|e|e <;> omega
 rw[if_neg (by rw[hz,sizeLine_eq];omega)]
 obtain⟨t',order,e1,e2,e3,e4,e5,e6,e7⟩:=Sa.laid_ok (mask:=M) (finger:=t.finger) (moves:=t.movedTo M) (led:=t.led) (plain:=t.plain) hM es (by omega)
 have er:t.relaid (es.map (·.1)) n=some (t',order):=by
  unfold relaid
  rw[hz]
  exact e1
 rw[er]
 dsimp only
 have ne:((order.filterMap (es[·]?)).size != es.size)=false:=by rw[e5];simp
 rw[ne]
 simp only[Bool.false_eq_true,if_false]
 refine wpAny_bind (wpAny_pure (wpAny_storeSet_of ho hd ?_ (by rw[e5,sizeLine_eq];omega)))
 obtain⟨g1,g2,g3⟩:=ny ho hx hd (order.filterMap (es[·]?)) t'
 obtain⟨ks',q1,q2⟩:=kz e6 el
 refine h _ g2 ⟨_,_,_,t',ks',⟨g1,hx,rfl,e7,?_,by rw[e3];exact pl,ay (fun _ _ z=>jX z g3) q1,q2.nodup_iff.mpr nd⟩,e4,q2⟩
 rw[e7.size,e2,e5]
 exact hs
theorem AO (S:SetAt X s.heap a o es ep t ks) {k:K}{b:Addr}{Q:Bool->Shared->Prop}(hr:X.knd.room A) (hb:X.knd.is s.heap k b) (hl:ks.length<70)
  (h:∀h' f,DJ X a k ks t.led s.heap h'->Q f { s with heap:=h' }):wpAny (model prog w) A (setAddHashed a (.ref b) (X.knd.hash k)) Q E s:=by
 unfold setAddHashed
 refine wpAny_holding ?_
 show wpAny _ _ (setAddHashedIn a (.ref b) (X.knd.hash k) (99999+1)) _ _ _
 rw[xh]
 refine wpAny_bind (wpAny_setState_of S.ob S.dt S.fits ?_)
 dsimp only
 have bs:byScan (.ref b) es=false:=by unfold byScan Value.scannable;rfl
 rw[bs]
 simp only[Bool.false_eq_true,if_false]
 have len:es.size=ks.length:=by rw[←Array.length_toList];exact S.el.length
 refine wpAny_bind (vk S hr hb (fun hk=>?_) fun hk N n1 n2=>?_)
 ·exact wpAny_pure (h s.heap false ⟨fun _ _ _ q=>q,o,es,ep,t,ks,S,rfl,fun _=>rfl,fun z=>absurd hk z⟩)
 ·dsimp only
  refine wpAny_bind (wpAny_setState_of S.ob S.dt S.fits ?_)
  dsimp only
  obtain⟨p1,p2,p3,p4,p5,p6,p7⟩:=Sa.put_tab S.full.tab (Sa.stand t (X.knd.hash k) N).j
  have F':=Sa.full_put S.full (e:=(X.knd.hash k,.ref b)) n1 n2
  dsimp only at F'
  obtain⟨bl,_,_⟩:=Sa.below_spec S.full.tab.rise (Sa.stand t (X.knd.hash k) N).j
  have sz:=F'.size
  have fs:=S.full.size
  have sz1:(insertAt es (t.put (Sa.stand t (X.knd.hash k) N).j).2 (X.knd.hash k,Value.ref b)).size=es.size+1:=Sa.ins_size _ _ (by rw[p1];omega)
  rw[p5,S.pl]
  simp only[if_true]
  refine wpAny_bind (X.byVal hb ?_)
  simp only[if_true]
  generalize (t.put (Sa.stand t (X.knd.hash k) N).j).1=t' at *
  generalize (t.put (Sa.stand t (X.knd.hash k) N).j).2=p at *
  refine wpAny_bind (wpAny_storeSet_of S.ob S.dt ?_ (by rw[sz1,sizeLine_eq];omega))
  obtain⟨g1,g2,g3⟩:=ny S.ob S.ex S.dt (insertAt es p (X.knd.hash k,Value.ref b)) t'
  have el':Paired (El X (s.heap.update a (Obj.putSet (insertAt es p (X.knd.hash k,Value.ref b)) t'))) (insertAt es p (X.knd.hash k,Value.ref b)).toList (ks.take p++k::ks.drop p):=by
   rw[Sa.ins_list]
   have el0:=ay (fun _ _ z=>jX z g3) S.el
   exact bL (fI p el0) (.cons ⟨b,rfl,X.keep hb g3,rfl⟩ (fJ p el0))
  have pm:(ks.take p++k::ks.drop p).Perm (k::ks):=by
   refine List.perm_middle.trans ?_
   rw[List.take_append_drop]
  have nd':(ks.take p++k::ks.drop p).Nodup:=pm.nodup_iff.mpr (List.nodup_cons.mpr ⟨hk,S.nd⟩)
  have few:=S.few
  have few':t'.place.size≤t'.mask:=by rw[sz,sz1,p2];omega
  have ps:t'.place.size=es.size+1:=by rw[sz,sz1]
  by_cases full:t'.tooFull=true
  ·rw[if_pos (by rw[full];rfl)]
   have full:t'.fill*5 ≥ t'.mask*3:=by simpa [SetTable.tooFull] using full
   unfold SetTable.fill at full
   rw[p4,ps,p2] at full
   simp only[List.size_toArray,List.length_nil,Nat.add_zero,Array.size_empty] at full
   rw[fs] at few
   have key:∃M,Sa.Mk M∧sizeAbove (grown (es.size+1))=M+1∧(es.size+1)*5<M*3:=by
    rcases S.full.tab.msk with e|e|e
    ·rw[e] at few full
     have:es.size=4:=by omega
     rw[this]
     exact⟨31,.inr (.inl rfl),by decide,by decide⟩
    ·rw[e] at few full
     have:es.size=18:=by omega
     rw[this]
     exact⟨127,.inr (.inr rfl),by decide,by decide⟩
    ·rw[e] at few full
     omega
   obtain⟨M,m1,m2,m3⟩:=key
   refine wpAny_bind (xl (s:={ s with heap:=s.heap.update a (Obj.putSet (insertAt es p (X.knd.hash k,Value.ref b)) t') }) g1 S.ex rfl F' few' (by rw[p5,S.pl]) el' nd' m1 m2 (by rw[sz1];exact m3) fun h' k1 ⟨o2,es2,ep2,t2,ks2,S2,l2,pm2⟩=>?_)
   exact wpAny_pure (h h' true ⟨fun b' u hb' q=>k1 b' u hb' (g2 b' u hb' q),o2,es2,ep2,t2,ks2,S2,l2.trans p6,fun z=>absurd z hk,fun _=>pm2.trans pm⟩)
  ·have nf:t'.tooFull=false:=by simpa using full
   rw[if_neg (by rw[nf];simp)]
   refine wpAny_pure (h _ true ⟨g2,_,_,_,t',_,⟨g1,S.ex,rfl,F',?_,by rw[p5,S.pl],el',nd'⟩,p6,fun z=>absurd z hk,fun _=>pm⟩)
   have nf:¬t'.fill*5 ≥ t'.mask*3:=by simpa [SetTable.tooFull] using nf
   unfold SetTable.fill at nf
   rw[p4] at nf
   simp only[List.size_toArray,List.length_nil,Nat.add_zero,Array.size_empty] at nf
   omega
end
end L2
namespace L2
open PySem PySem.Spec PyProof.Rows PySem.SetTable
section
variable {prog:Program}{w:World}{K:Type} [DecidableEq K] {A:Around}{E:Value->Shared->Prop}{X:EKind prog w K}
abbrev xm (X:EKind prog w K) (h:Heap) (v:Value) (k:K):Prop:=∃b,v=Value.ref b∧X.knd.is h k b
structure Fill (X:EKind prog w K) (h:Heap) (S:Addr) (keys:List K) (led:Bool):Prop where
 ex:∃o es ep t ks,SetAt X h S o es ep t ks∧(∀k,k∈ks↔k∈keys)∧t.led=led
theorem xn {led:Bool}{h0:Heap}{S I l:Addr}{items:Array Value}{keys:List K}{R:Result->Shared->Prop}(hh:A.in1.handled=none) (hr:X.knd.room A.in1) (hI:I≠l) (hSI:S≠I) (hSl:S≠l) (p:Paired (xm X h0) items.toList keys) (hl:keys.length<70) :
  ∀(d i:Nat) (s:Shared),items.size-i=d->i≤items.size->(s.heap.IsListIter I l i∧s.heap.IsList l items)->(∀b o,b≠S->b≠I->h0.get? b=some o->s.heap.get? b=some o)->(∀b o,h0.get? b=some o->b≠S∧b≠I)->
   Fill X s.heap S (keys.take i) led->
   (∀h' tk,(∀b o,b≠S->b≠I->s.heap.get? b=some o->h'.get? b=some o)->Fill X h' S keys led->R (.ok (.ret .none)) { s with heap:=h',toks:=tk })->
   codeAny (model prog w) A (.builtin "set.update.loop" ⟨[.ref S,.ref I],[]⟩) R s:=by
 have W:=Walks.list (prog:=prog) (w:=w) hh I l (Ne.symm hI) items
 have kl:items.size=keys.length:=by rw[←Array.length_toList];exact p.length
 intro d
 induction d with
 | zero=>
  intro i s hd hi st kp nw F h
  obtain rfl:i=items.size:=by omega
  refine codeAny_builtin PyProof.Rows.F.entry_set_update_loop ?_
  rw[Around.under_plainId PyProof.Rows.F.plain_set_update_loop _]
  show wpAny _ A.in1 (pyNext (.ref I) >>= _) _ _ s
  refine wpAny_bind (W.done s _ _ st fun h' tk k1=>?_)
  show wpAny _ A.in1 (ret Value.none) _ _ _
  have up:∀b o,b≠I->s.heap.get? b=some o->h'.get? b=some o:=fun b o hb e=>k1 b o (by simpa using hb) e
  refine wpAny_pure (h h' tk (fun b o _ hb e=>up b o hb e) ?_)
  obtain⟨o,es,ep,t,ks,S1,m,ld⟩:=F
  rw[kl,List.take_length] at m
  refine⟨o,es,ep,t,ks,⟨up S o hSI S1.ob,S1.ex,S1.dt,S1.full,S1.few,S1.pl,ay (fun _ _ z=>jX z fun b u hc q=>?_) S1.el,S1.nd⟩,m,ld⟩
  refine up b u ?_ q
  rintro rfl
  obtain⟨⟨oi,ei,ci,_⟩,_⟩:=st
  rw[ei] at q
  cases q
  rw[ci] at hc
  injection hc with hc
  exact absurd hc (by decide)
 | succ d ih=>
  intro i s hd hi st kp nw F h
  have hlt:i<items.size:=by omega
  refine codeAny_builtin PyProof.Rows.F.entry_set_update_loop ?_
  rw[Around.under_plainId PyProof.Rows.F.plain_set_update_loop _]
  show wpAny _ A.in1 (pyNext (.ref I) >>= _) _ _ s
  refine wpAny_bind (W.item i s _ _ hlt st fun v h1 tk hv st1 k1=>?_)
  have up:∀b o,b≠I->s.heap.get? b=some o->h1.get? b=some o:=fun b o hb e=>k1 b o (by simpa using hb) e
  obtain⟨k,hk,b,rfl,hb⟩:=cw (i:=i) (a:=v) p (by rw[Array.getElem?_toList];exact hv)
  have hb1:X.knd.is h1 k b:=X.keep hb fun b' o' _ q=>up b' o' (nw b' o' q).2 (kp b' o' (nw b' o' q).1 (nw b' o' q).2 q)
  obtain⟨o,es,ep,t,ks,S1,m,ld⟩:=F
  have S2:SetAt X h1 S o es ep t ks:=⟨up S o hSI S1.ob,S1.ex,S1.dt,S1.full,S1.few,S1.pl,ay (fun _ _ z=>jX z fun b' u hc q=>up b' u (by
   rintro rfl
   obtain⟨⟨oi,ei,ci,_⟩,_⟩:=st
   rw[ei] at q
   cases q
   rw[ci] at hc
   injection hc with hc
   exact absurd hc (by decide)) q) S1.el,S1.nd⟩
  show wpAny _ A.in1 (holding [Value.ref b] (setAdd S (.ref b)) >>= _) _ _ _
  refine wpAny_bind (wpAny_holding ?_)
  unfold setAdd
  refine wpAny_holding (wpAny_bind (X.knd.pyHash hr hb1 ?_))
  have few:ks.length<70:=by
   have:ks.length≤(keys.take i).length:=by
    have key:∀(a c:List K),a.Nodup->(∀x∈a,x∈c)->a.length≤c.length:=by
     intro a
     induction a with
     | nil=>intro c _ _;exact Nat.zero_le _
     | cons x a ih'=>
      intro c nd hs
      rw[List.nodup_cons] at nd
      have hx:=hs x List.mem_cons_self
      have:=ih' (c.erase x) nd.2 fun y hy=>(List.mem_erase_of_ne (by rintro rfl;exact nd.1 hy)).mpr (hs y (List.mem_cons_of_mem _ hy))
      rw[List.length_erase_of_mem hx] at this
      have hp:0<c.length:=List.length_pos_of_mem hx
      simp only[List.length_cons]
      omega
    exact key ks _ S1.nd fun x hx=>(m x).mp hx
   rw[List.length_take] at this
   omega
  refine AO (s:={ s with heap:=h1,toks:=tk+X.knd.draws k }) S2 hr hb1 few fun h2 f ⟨k2,o2,es2,ep2,t2,ks2,S3,ld2,q1,q2⟩=>?_
  refine wpAny_pure ⟨plainId_quiet PyProof.Rows.F.plain_set_update_loop _,ih (i+1) _ (by omega) (by omega) ?_ (fun b' o' z1 z2 q=>k2 b' o' z1 (up b' o' z2 (kp b' o' z1 z2 q))) nw ⟨o2,es2,ep2,t2,ks2,S3,fun x=>?_,ld2.trans ld⟩ fun h3 tk3 k3 F3=>?_⟩
  ·obtain⟨⟨oi,ei,ci⟩,ol,el,cl⟩:=st1
   exact⟨⟨oi,k2 I oi (Ne.symm hSI) ei,ci⟩,ol,k2 l ol (Ne.symm hSl) el,cl⟩
  ·rw[List.take_add_one,hk,List.mem_append]
   simp only[Option.toList_some,List.mem_singleton]
   by_cases z:k∈ks
   ·rw[q1 z,m x]
    constructor
    ·exact .inl
    ·rintro(y|rfl)
     ·exact y
     ·exact(m _).mp z
   ·rw[(q2 z).mem_iff,List.mem_cons,m x]
    exact or_comm
  ·exact h h3 tk3 (fun b' o' z1 z2 q=>k3 b' o' z1 z2 (k2 b' o' z1 (up b' o' z2 q))) F3
theorem vm {h:Heap}{S:Addr}{led:Bool}(e:h.get? S=some { cls:=.type "set",dict:=none,data:=.set #[] 0 (.fresh 0 0 led) }):Fill X h S [] led:=
 ⟨_,#[],0,.fresh 0 0 led,[],⟨e,⟨rfl,rfl,rfl⟩,rfl,⟨⟨.inl rfl,List.Pairwise.nil,fun j hj=>(List.not_mem_nil hj).elim,rfl⟩,rfl,fun x hx=>(List.not_mem_nil hx).elim⟩,(by show 0*5<7*3;decide),rfl,.nil,List.nodup_nil⟩,fun _=>Iff.rfl,rfl⟩
variable {s:Shared}
abbrev dG (led:Bool):Obj:={ cls:=.type "set",dict:=none,data:=.set #[] 0 (.fresh 0 0 led) }
abbrev iL (w:World):Bool:=!(w.params.followText "set-order")
theorem zv {x:Value}{Q₁:Value->Shared->Prop}(h:Q₁ (.ref s.heap.objs.size) { s with heap:=s.heap.push (dG (iL w)) }) :
  codeAny (model prog w) A (.call (.builtin "set.__new__") ⟨[.type "set",x],[]⟩) (wants Q₁ E) s:=by
 refine codeAny_of_tree (wpAny_bind (wpAny_of_eq (PySem.F.newCall_set_1 x) (wpAny_pure ⟨plainId_quiet PySem.F.plain_set_new _,codeAny_builtin PySem.F.entry_set_new ?_⟩)))
 rw[Around.under_plainId PySem.F.plain_set_new _]
 have c1:=sub_set_self
 unfold Builtin.«set.__new__» Builtin.Frozenset.newClass
 obtain⟨hp,g,d,tk,os⟩:=s
 dsimp only at h ⊢
 wp_walk
 refine wpAny_askSetting (wpAny_pure ?_)
 dsimp only
 simp only[newObj]
 exact wpAny_bind (wpAny_alloc (wpAny_pure (wpAny_pure h)))
theorem AQ {x:Value}{Q:Value->Shared->Prop}
  (h:wpAny (model prog w) A.in1.in1 (Builtin.«set.__init__» ⟨[.ref s.heap.objs.size,x],[]⟩) (fun fin s'=>∃r,fin=.done (.ret r)∧r=.none∧Q (.ref s.heap.objs.size) s') E { s with heap:=s.heap.push (dG (iL w)) }) :
  wpAny (model prog w) A (call (.type "set") [x]) Q E s:=by
 have T:=PySem.F.called_set
 obtain⟨c,tl,hmro⟩:=T.mro
 have c1:=T.made
 have c2:=T.sub
 have c3:=T.notType
 have c4:=T.canCreate
 have c5:=PySem.F.typeCall_set_1 x
 refine wpAny_call (codeAny_of_tree (wpAny_pure ⟨Code.quiet_builtin _ (by decide +kernel),codeAny_builtin PySem.F.entry_type_call ?_⟩))
 rw[Around.under_plain (weight_type_call_type "set" [x] []) rfl]
 repeat (any_goals (first|assumption|wp_step))
 refine codeAny_mono (zv (x:=x) (E:=E) (Q₁:=fun obj s₁=>obj=.ref s.heap.objs.size∧s₁={ s with heap:=s.heap.push (dG (iL w)) }) ⟨rfl,rfl⟩) fun r s₁ q=>?_
 match r,q with
 | .error e,q=>exact q
 | .ok (.ret obj),⟨e1,e2⟩=>
  subst e1 e2
  have ty:Shared.TypeIs { s with heap:=s.heap.push (dG (iL w)) } (.ref s.heap.objs.size) "set":=⟨_,Heap.get?_push_size _ rfl,rfl⟩
  have c6:=T.init.lookup
  have c7:=T.init.bind (.ref s.heap.objs.size)
  repeat (any_goals (first|assumption|wp_step))
  refine codeAny_mono (codeAny_call_builtin (R:=wants (fun r s₂=>r=.none∧Q (.ref s.heap.objs.size) s₂) E) T.init.plain PySem.F.entry_set_init (check_set_init_1 ty (wpAny_mono h (fun fin s' ⟨r,e,z⟩=>?_) fun _ _ z=>z))) fun r₂ s₂ q₂=>?_
  ·subst e
   exact z
  ·match r₂,q₂ with
   | .error e,q₂=>exact q₂
   | .ok (.ret r),⟨e3,q₂⟩=>
    subst e3
    repeat (any_goals (first|assumption|wp_step))
end
end L2
namespace L2
open PySem PySem.Spec PyProof.Rows PySem.SetTable
section
variable {prog:Program}{w:World}{K:Type} [DecidableEq K] {A:Around}{E:Value->Shared->Prop}{X:EKind prog w K}{s:Shared}
theorem ri {l:Addr}{items:Array Value}{keys:List K}{Q:Value->Shared->Prop}(hh:A.handled=none) (hr:X.knd.room A.in1.in1.in1) (hl:s.heap.IsList l items) (p:Paired (xm X s.heap) items.toList keys) (hn:keys.length<70)
  (h:∀h' tk,(∀b o,s.heap.get? b=some o->h'.get? b=some o)->Fill X h' s.heap.objs.size keys (iL w)->Q (.ref s.heap.objs.size) { s with heap:=h',toks:=tk }):wpAny (model prog w) A (call (.type "set") [.ref l]) Q E s:=by
 refine AQ ?_
 generalize hled:iL w=led at h ⊢
 obtain⟨⟨ocls,odict,odata,oslots⟩,hol,hcl,nl,hdl⟩:=hl
 simp only at hcl hdl
 subst hcl hdl
 have lt:l<s.heap.objs.size:=Heap.lt_size hol
 have hS:(s.heap.push (dG led)).get? s.heap.objs.size=some (dG led):=Heap.get?_push_size _ rfl
 have hT:Shared.TypeIs { s with heap:=s.heap.push (dG led) } (.ref s.heap.objs.size) "set":=⟨_,hS,rfl⟩
 have hol':(s.heap.push (dG led)).get? l=some { cls:=.type "list",dict:=odict,data:=.seq items nl,slots:=oslots }:=Heap.get?_push_of_some _ hol
 have n1:=PySem.F.sub_list_set
 have n2:=PySem.F.sub_list_frozenset
 have n3:(Value.type "list"==Value.type "dict")=false:=by decide
 have hl1:(s.heap.push (dG led)).IsList l items:=⟨_,hol',rfl,nl,rfl⟩
 unfold Builtin.«set.__init__» noKeywords Builtin.Frozenset.updateFrom
 generalize hPI:pyIter=PI
 wp_walk
 subst hPI
 refine wpAny_pyIter_list hl1 (wpAny_bind (wpAny_runValue ?_))
 have sz1:(s.heap.push (dG led)).objs.size=s.heap.objs.size+1:=Heap.size_push ..
 refine xn (X:=X) (h0:=s.heap) (S:=s.heap.objs.size) (I:=(s.heap.push (dG led)).objs.size) (l:=l) (items:=items) (keys:=keys) ?_ ?_ (by rw[sz1];exact Nat.ne_of_gt (Nat.lt_succ_of_lt lt)) (by rw[sz1];exact Nat.ne_of_lt (Nat.lt_succ_self _)) (Nat.ne_of_gt lt) p hn (items.size-0) 0 _ rfl (Nat.zero_le _)
  ⟨⟨_,Heap.get?_push_size _ rfl,rfl,rfl⟩,hl1.push _⟩ (fun b o _ _ e=>Heap.get?_push_of_some _ (Heap.get?_push_of_some _ e)) (fun b o e=>⟨Nat.ne_of_lt (Heap.lt_size e),by rw[sz1];exact Nat.ne_of_lt (Nat.lt_succ_of_lt (Heap.lt_size e))⟩)
  (vm (led:=led) (Heap.get?_push_of_some _ hS)) fun h' tk k1 F=>?_
 ·simp[hh]
 ·exact hr
 ·refine wpAny_pure ?_
  refine wpAny_pure ⟨_,rfl,rfl,h h' tk (fun b o e=>?_) F⟩
  exact k1 b o (Nat.ne_of_lt (Heap.lt_size e)) (by rw[sz1];exact Nat.ne_of_lt (Nat.lt_succ_of_lt (Heap.lt_size e))) (Heap.get?_push_of_some _ (Heap.get?_push_of_some _ e))
end
end L2
namespace L2
open PySem PySem.Spec PyProof.Rows PySem.SetTable
section
variable {prog:Program}{w:World}{A:Around}{E:Value->Shared->Prop}{s:Shared}
theorem pN (n:Nat) {a:Addr}{items:Array Value}{Q:Bool->Shared->Prop}(tp:s.heap.IsTuple a items) (hv:∀v∈items.toList,∀(Q:Bool->Shared->Prop),Q true s->wpAny (model prog w) A (hashByValue n v) Q E s) (h:Q true s) :
  wpAny (model prog w) A (hashByValue (n+1) (.ref a)) Q E s:=by
 have hT:=fb tp
 obtain⟨o,ho,hcl,n',hd⟩:=tp
 unfold hashByValue
 refine wpAny_bind (wpAny_specialOf hT F.slot_tuple_hash.lookup ?_)
 refine wpAny_bind (wpAny_seqItems ho hd ?_)
 refine wpAny_bind ?_
 show wpAny _ _ (forIn items _ _) _ _ s
 rw[←Array.forIn_toList]
 refine wpAny_forIn_list _ (fun rest r s'=>r.1=none∧s'=s∧∀v∈rest,v∈items.toList) _ ?turn ?fin _ _ ⟨rfl,rfl,fun v hv=>hv⟩
 case turn=>
  rintro v rest ⟨r1,r2⟩ s' ⟨hr,e,all⟩
  simp only at hr
  subst e hr
  refine wpAny_bind (hv v (all v List.mem_cons_self) _ ?_)
  simp only[Bool.not_true,Bool.false_eq_true,if_false]
  exact wpAny_pure ⟨rfl,rfl,fun u hu=>all u (List.mem_cons_of_mem _ hu)⟩
 case fin=>
  rintro⟨r1,r2⟩ s' ⟨hr,e,_⟩
  simp only at hr
  subst e hr
  exact wpAny_pure h
theorem pO (n:Nat) {a:Addr}{items:Array Value}{Q:Bool->Shared->Prop}(tp:s.heap.IsTuple a items) (hv:∀v∈items.toList,∀(Q:Bool->Shared->Prop),Q false s->wpAny (model prog w) A (ofAClassStatement n v) Q E s) (h:Q false s) :
  wpAny (model prog w) A (ofAClassStatement (n+1) (.ref a)) Q E s:=by
 have hT:=fb tp
 obtain⟨o,ho,hcl,n',hd⟩:=tp
 unfold ofAClassStatement
 refine wpAny_bind (wpAny_typeOf hT ?_)
 dsimp only
 rw[if_pos (by decide)]
 refine wpAny_bind (wpAny_pure ?_)
 simp only[Bool.not_true,Bool.false_eq_true,if_false]
 refine wpAny_bind (wpAny_seqItems ho hd ?_)
 dsimp only
 refine wpAny_bind ?_
 rw[←Array.forIn_toList]
 refine wpAny_forIn_list _ (fun rest r s'=>r.1=none∧s'=s∧∀v∈rest,v∈items.toList) _ ?turn ?fin _ _ ⟨rfl,rfl,fun v hv=>hv⟩
 case turn=>
  rintro v rest ⟨r1,r2⟩ s' ⟨hr,e,all⟩
  simp only at hr
  subst e hr
  refine wpAny_bind (hv v (all v List.mem_cons_self) _ ?_)
  simp only[Bool.false_eq_true,if_false]
  exact wpAny_pure ⟨rfl,rfl,fun u hu=>all u (List.mem_cons_of_mem _ hu)⟩
 case fin=>
  rintro⟨r1,r2⟩ s' ⟨hr,e,_⟩
  simp only at hr
  subst e hr
  exact wpAny_pure h
theorem pP (n:Nat) {ks:List Int}{a:Addr}{Q:Bool->Shared->Prop}(x:bE s.heap ks a) (h:Q true s):wpAny (model prog w) A (hashByValue (n+1) (.ref a)) Q E s:=by
 obtain⟨i,t,r⟩:=x
 refine pN n t (fun v hv Q' q=>?_) h
 obtain⟨k,_,t',e⟩:=eO r v hv
 subst e
 cases n <;> exact wpAny_pure q
theorem pQ (n:Nat) {ks:List Int}{a:Addr}{Q:Bool->Shared->Prop}(x:bE s.heap ks a) (h:Q false s):wpAny (model prog w) A (ofAClassStatement (n+1) (.ref a)) Q E s:=by
 obtain⟨i,t,r⟩:=x
 refine pO n t (fun v hv Q' q=>?_) h
 obtain⟨k,_,t',e⟩:=eO r v hv
 subst e
 cases n <;> exact wpAny_pure q
theorem vo (n:Nat) {kss:List (List Int)}{a:Addr}{Q:Bool->Shared->Prop}(x:cN s.heap kss a) (h:Q true s):wpAny (model prog w) A (hashByValue (n+2) (.ref a)) Q E s:=by
 obtain⟨i,t,r⟩:=x
 refine pN (n+1) t (fun v hv Q' q=>?_) h
 obtain⟨ks,_,b,e,g⟩:=eO r v hv
 subst e
 exact pP n g q
theorem vp (n:Nat) {kss:List (List Int)}{a:Addr}{Q:Bool->Shared->Prop}(x:cN s.heap kss a) (h:Q false s):wpAny (model prog w) A (ofAClassStatement (n+2) (.ref a)) Q E s:=by
 obtain⟨i,t,r⟩:=x
 refine pO (n+1) t (fun v hv Q' q=>?_) h
 obtain⟨ks,_,b,e,g⟩:=eO r v hv
 subst e
 exact pQ n g q
theorem kO {h h':Heap}{a:Addr}{ks:List Int}(x:bE h ks a) (k:∀b o,o.cls=.type "tuple"->h.get? b=some o->h'.get? b=some o):bE h' ks a:=by
 obtain⟨i,⟨o,e,c,n,d⟩,r⟩:=x
 exact⟨i,⟨o,k _ _ c e,c,n,d⟩,r⟩
theorem vt {h h':Heap}{a:Addr}{kss:List (List Int)}(x:cN h kss a) (k:∀b o,o.cls=.type "tuple"->h.get? b=some o->h'.get? b=some o):cN h' kss a:=by
 obtain⟨i,⟨o,e,c,n,d⟩,r⟩:=x
 exact⟨i,⟨o,k _ _ c e,c,n,d⟩,ay (fun _ _ ⟨b,e,q⟩=>⟨b,e,kO q k⟩) r⟩
end
def AR (prog:Program) (w:World):HeapKind prog w (List Int) where
 is:=bE
 hash:=fN
 draws:=fun ks=>ks.length+1
 room:=fun A=>A.units<cLine
 inj:=fun p q=>p.inj q
 keeps:=fun p ho hd hs=>p.keeps ho hd hs
 pyHash:=fun hu hk h=>ni hu hk h
 eqBool:=fun hu hx hy h=>xZ hu hx hy _ _ _ _ h
 quiet:=fun hk h=>pC 7 hk h
def itE (prog:Program) (w:World):EKind prog w (List Int) where
 knd:=AR prog w
 byVal:=fun hk h=>pP 7 hk h
 noCls:=fun hk h=>pQ 7 hk h
 keep:=fun hk k=>kO hk k
def DK (prog:Program) (w:World):EKind prog w (List (List Int)) where
 knd:=gx prog w
 byVal:=fun hk h=>vo 6 hk h
 noCls:=fun hk h=>vp 6 hk h
 keep:=fun hk k=>vt hk k
end L2
namespace L2
open PySem PySem.Spec PyProof.Rows PySem.SetTable
theorem dR:Slot "set_iterator" "__next__" "set_iterator.__next__":=
 .of (owner:="set_iterator") (n:="__next__") (by rw[typeLookup_type,builtinLookup_eq_fast];kernel_rfl) (by decide +kernel) (by decide +kernel) (by decide +kernel)
  (by first|exact .inl (by decide +kernel)|exact .inr (by decide +kernel)) (by rw[isSubtype_type];kernel_rfl)
theorem kA:entryFor table "set_iterator.__next__"=some Builtin.«set_iterator.__next__»:=entryFor_of_tree (by kernel_rfl)
theorem lG (a:Value):argsOk "set_iterator.__next__" ⟨[a],[]⟩:=by unfold argsOk;kernel_rfl
theorem gE:Slot "set_iterator" "__iter__" "set_iterator.__iter__":=
 .of (owner:="set_iterator") (n:="__iter__") (by rw[typeLookup_type,builtinLookup_eq_fast];kernel_rfl) (by decide +kernel) (by decide +kernel) (by decide +kernel)
  (by first|exact .inl (by decide +kernel)|exact .inr (by decide +kernel)) (by rw[isSubtype_type];kernel_rfl)
theorem mI:entryFor table "set.__iter__"=some Builtin.«frozenset.__iter__»:=
 entryFor_alias (id':="frozenset.__iter__") (by kernel_rfl) rfl (by decide +kernel) (by kernel_rfl)
theorem lH {α:Type}:∀{l:List α}{i:Nat}(h:i<l.length),(l[i]::l.eraseIdx i).Perm l
 | [],_,h=>by simp at h
 | a::l,0,_=>List.Perm.refl _
 | a::l,i+1,h=>by
  have h':i<l.length:=by simpa using h
  have ih:=lH h'
  show(l[i]::a::l.eraseIdx i).Perm (a::l)
  exact(List.Perm.swap a l[i] _).trans (ih.cons a)
theorem rX {α:Type}(next:Nat->Nat):∀(fuel k:Nat) (left:List α) (out:Array α),fuel=left.length->(pickOrder.go next fuel k left out).toList.Perm (out.toList++left)
 | 0,k,left,out,h=>by
  have:left=[]:=List.length_eq_zero_iff.mp h.symm
  subst this
  unfold pickOrder.go
  simp
 | fuel+1,k,left,out,h=>by
  have hp:0<left.length:=by omega
  have hlt:next k % left.length<left.length:=Nat.mod_lt _ hp
  unfold pickOrder.go
  rw[List.getElem?_eq_getElem hlt]
  dsimp only
  refine(rX next fuel (k+1) (left.eraseIdx (next k % left.length)) _ (by rw[List.length_eraseIdx_of_lt hlt];omega)).trans ?_
  rw[Array.toList_push,List.append_assoc]
  refine List.Perm.append_left _ ?_
  exact lH hlt
theorem nz {α:Type}(next:Nat->Nat) (xs:Array α):(pickOrder next xs).toList.Perm xs.toList:=by
 have:=rX next xs.size 0 xs.toList #[] (by simp)
 simpa [pickOrder] using this
abbrev eA (w:World):Bool:=w.params.followText "set-order"
def wo (w:World) (a:Addr) (ep:Nat) (es:Array Sa.Elem):Array Sa.Elem:=if eA w=true then pickOrder (w.params.setOrder a ep) es else es
theorem rY (w:World) (a:Addr) (ep:Nat) (es:Array Sa.Elem):(wo w a ep es).toList.Perm es.toList:=by
 unfold wo
 split
 ·exact nz _ _
 ·exact List.Perm.refl _
def at_ (w:World) (t:SetTable) (i:Nat):Nat:=if eA w=true then 0 else match i with
 | 0=>0
 | i+1=>t.place.getD i 0+1
structure Itr' (h:Heap) (it a:Addr) (slot i n ep:Nat):Prop where
 ex:∃o,h.get? it=some o∧o.cls=.type "set_iterator"∧o.data=.fields #[.int slot 0,.int i 0,.ref a,.int n 0,.int ep 0]
structure Wk (w:World) (h:Heap) (a:Addr) (es:Array Sa.Elem) (ep:Nat) (t:SetTable):Prop where
 ob:∃o,h.get? a=some o∧o.ExactSet∧o.data=.set es ep t
 rise:Sa.Rise t.place
 size:t.place.size=es.size
 fits:t.fits es.size=true
 pl:t.plain=true
 led:t.led=iL w
theorem pS {w:World}{t:SetTable}(r:Sa.Rise t.place) (b:eA w=false):∀i,i≤t.place.size->below t.place (at_ w t i)=i
 | 0,_=>by
  obtain⟨h1,h2,h3⟩:=Sa.below_spec r (at_ w t 0)
  have e:at_ w t 0=0:=by unfold at_;rw[b];rfl
  rw[e] at h2 ⊢
  rcases Nat.eq_zero_or_pos (below t.place 0) with z|z
  ·exact z
  ·have:=(Sa.below_spec r 0).2.1 0 z (by have:=(Sa.below_spec r 0).1;omega)
   omega
 | i+1,hi=>by
  have hi':i<t.place.size:=by omega
  have e:at_ w t (i+1)=t.place[i]+1:=by
   unfold at_
   rw[b]
   simp[Array.getD,hi']
  rw[e]
  obtain⟨h1,h2,h3⟩:=Sa.below_spec r (t.place[i]+1)
  rcases Nat.lt_trichotomy (below t.place (t.place[i]+1)) (i+1) with z|z|z
  ·have:=h3 i (by omega) hi'
   omega
  ·exact z
  ·have hz:i+1<t.place.size:=by omega
   have a1:=h2 (i+1) z hz
   have a2:=Sa.rise_get r (show i<i+1 by omega) hz
   omega
section
variable {prog:Program}{w:World}{A:Around}{E:Value->Shared->Prop}{s:Shared}{it a:Addr}{es:Array Sa.Elem}{ep i:Nat}{t:SetTable}
theorem lI (a:Addr) (slot given ep:Nat):setNext a slot given ep=(do
  let (es,epoch,t) ←setState a
  if ←setsByText then
   if epoch != ep then unsupported "set_iterator.__next__:elements-changed"
   return ((←setWalk a)[given]?).map fun e=>(e.2,slot)
  if (!t.plain&&es.size > 1:Bool) then unsupported "set_iterator.__next__:the-table-is-plain-no-more"
  (do if !t.led&&!es.isEmpty then unsupported "set:maker-not-led":Sem Unit)
  let i:=SetTable.below t.place slot
  return match es[i]?,t.place[i]? with
   | some (_,x),some j=>some (x,j+1)
   | _,_=>none):=rfl
theorem lJ (a:Addr):setWalk a=(do
  let (es,epoch,t) ←setState a
  if ←setsByText then return pickOrder ((←ask).params.setOrder a epoch) es
  if (!t.plain&&es.size > 1:Bool) then return (←drawOrder es.size es.toList).toArray
  (do if !t.led&&es.size > 1 then unsupported "set:maker-not-led":Sem Unit)
  return es):=rfl
theorem fP {Q:Bool->Shared->Prop}(h:Q (eA w) s):wpAny (model prog w) A setsByText Q E s:=by
 unfold setsByText
 exact wpAny_bind (wpAny_askSetting (wpAny_pure h))
theorem vv (W:Wk w s.heap a es ep t) {e:Sa.Elem}(he:(wo w a ep es)[i]?=some e) {Q:Option (Value×Nat)->Shared->Prop}(h:Q (some (e.2,at_ w t (i+1))) s):wpAny (model prog w) A (setNext a (at_ w t i) i ep) Q E s:=by
 obtain⟨o,ho,hx,hd⟩:=W.ob
 rw[lI]
 refine wpAny_bind (wpAny_setState_of ho hd W.fits (wpAny_bind (fP ?_)))
 dsimp only
 cases b:eA w with
 | true=>
  simp only[if_true,bne_self_eq_false,Bool.false_eq_true,if_false]
  rw[lJ]
  refine wpAny_bind (wpAny_bind (wpAny_setState_of ho hd W.fits (wpAny_bind (fP ?_))))
  simp only[b,if_true]
  refine wpAny_bind (wpAny_askSetting (wpAny_pure ?_))
  refine wpAny_pure ?_
  have he':(pickOrder (w.params.setOrder a ep) es)[i]?=some e:=by unfold wo at he;rw[b] at he;exact he
  show Q (Option.map _ (pickOrder (w.params.setOrder a ep) es)[i]?) s
  rw[he']
  have e1:at_ w t i=at_ w t (i+1):=by unfold at_;rw[b];rfl
  show Q (some (e.2,at_ w t i)) s
  rw[e1]
  exact h
 | false=>
  have he':es[i]?=some e:=by unfold wo at he;rw[b] at he;exact he
  have hi:i<es.size:=(Array.getElem?_eq_some_iff.mp he').1
  have hip:i<t.place.size:=by rw[W.size];exact hi
  have ld:t.led=true:=by rw[W.led];show(!eA w)=true;rw[b];rfl
  simp only[Bool.false_eq_true,if_false,W.pl,Bool.not_true,Bool.false_and,ld]
  rw[pS W.rise b i (by omega)]
  refine wpAny_pure ?_
  rw[he',Array.getElem?_eq_getElem hip]
  have e1:at_ w t (i+1)=t.place[i]+1:=by unfold at_;rw[b];simp[Array.getD,hip]
  rw[e1] at h
  exact h
theorem vw (W:Wk w s.heap a es ep t) {Q:Option (Value×Nat)->Shared->Prop}(h:Q none s):wpAny (model prog w) A (setNext a (at_ w t es.size) es.size ep) Q E s:=by
 obtain⟨o,ho,hx,hd⟩:=W.ob
 rw[lI]
 refine wpAny_bind (wpAny_setState_of ho hd W.fits (wpAny_bind (fP ?_)))
 dsimp only
 cases b:eA w with
 | true=>
  simp only[if_true,bne_self_eq_false,Bool.false_eq_true,if_false]
  rw[lJ]
  refine wpAny_bind (wpAny_bind (wpAny_setState_of ho hd W.fits (wpAny_bind (fP ?_))))
  simp only[b,if_true]
  refine wpAny_bind (wpAny_askSetting (wpAny_pure ?_))
  refine wpAny_pure ?_
  have he':(pickOrder (w.params.setOrder a ep) es)[es.size]?=none:=by
   refine Array.getElem?_eq_none ?_
   rw[←Array.length_toList,(nz _ _).length_eq,Array.length_toList]
   exact Nat.le_refl _
  show Q (Option.map _ (pickOrder (w.params.setOrder a ep) es)[es.size]?) s
  rw[he']
  exact h
 | false=>
  have ld:t.led=true:=by rw[W.led];show(!eA w)=true;rw[b];rfl
  simp only[Bool.false_eq_true,if_false,W.pl,Bool.not_true,Bool.false_and,ld]
  rw[pS W.rise b es.size (by rw[W.size];exact Nat.le_refl _)]
  refine wpAny_pure ?_
  rw[Array.getElem?_eq_none (Nat.le_refl _)]
  exact h
end
end L2
namespace L2
open PySem PySem.Spec PyProof.Rows PySem.SetTable
section
variable {prog:Program}{w:World}{A:Around}{E:Value->Shared->Prop}{s:Shared}{it a:Addr}{es:Array Sa.Elem}{ep i:Nat}{t:SetTable}
theorem eQ {slot n:Nat}(I:Itr' s.heap it a slot i n ep):s.TypeIs (.ref it) "set_iterator":=let ⟨o,e,c,_⟩:=I.ex;⟨o,e,c⟩
theorem tN (W:Wk w s.heap a es ep t) (I:Itr' s.heap it a (at_ w t i) i es.size ep) {e:Sa.Elem}(he:(wo w a ep es)[i]?=some e) {Q:Option Value->Shared->Prop}
  (h:∀h',Itr' h' it a (at_ w t (i+1)) (i+1) es.size ep->Heap.SameBut it s.heap h'->Q (some e.2) { s with heap:=h' }):wpAny (model prog w) A (pyNext (.ref it)) Q E s:=by
 obtain⟨o,ho,hx,hd⟩:=W.ob
 obtain⟨oi,ei,ci,di⟩:=I.ex
 unfold pyNext
 refine wpAny_bind (wpAny_attempt (wpAny_callSpecial?_slot (name:=Str.ofString "__next__") (eQ I) dR (wpAny_call_entry dR (eQ I) kA ?_ (lG _))))
 unfold Builtin.«set_iterator.__next__»
 refine wpAny_bind (wpAny_pure ?_)
 refine wpAny_bind (wpAny_fieldsOf ei di ?_)
 dsimp only
 refine wpAny_bind (wpAny_setEntries_of ho hd W.fits ?_)
 rw[if_neg (by simp)]
 refine wpAny_bind ?_
 show wpAny _ _ (setNext a (at_ w t i) i ep) _ _ _
 refine vv W he ?_
 dsimp only
 have e1:Obj.isFreed oi=Obj.isFreed oi:=rfl
 refine wpAny_bind (wpAny_setField ei di (by simp) ?_)
 have ei1:=Heap.get?_update_self (Obj.mapFields (·.setIfInBounds 0 (rawInt ((at_ w t (i+1):Nat):Int)))) ei (Obj.isFreed_of_fields (Obj.data_mapFields di _))
 have di1:=Obj.data_mapFields di (·.setIfInBounds 0 (rawInt ((at_ w t (i+1):Nat):Int)))
 refine wpAny_bind (wpAny_setField (s:={ s with heap:=s.heap.update it (Obj.mapFields (·.setIfInBounds 0 (rawInt ((at_ w t (i+1):Nat):Int)))) }) ei1 di1 (by simp) ?_)
 have ei2:=Heap.get?_update_self (Obj.mapFields (·.setIfInBounds 1 (rawInt ((i:Int)+1)))) ei1 (Obj.isFreed_of_fields (Obj.data_mapFields di1 _))
 have di2:=Obj.data_mapFields di1 (·.setIfInBounds 1 (rawInt ((i:Int)+1)))
 refine wpAny_pure ⟨_,rfl,wpAny_pure (h _ ⟨_,ei2,?_,?_⟩ ((Heap.SameBut.update ..).trans (Heap.SameBut.update ..)))⟩
 ·rw[Obj.cls_mapFields,Obj.cls_mapFields];exact ci
 ·rw[di2];simp[rawInt]
theorem vx (hh:A.handled=none) (W:Wk w s.heap a es ep t) (I:Itr' s.heap it a (at_ w t es.size) es.size es.size ep) {Q:Option Value->Shared->Prop}
  (h:∀h',Heap.ExtBut it s.heap h'->Q none { s with heap:=h' }):wpAny (model prog w) A (pyNext (.ref it)) Q E s:=by
 obtain⟨o,ho,hx,hd⟩:=W.ob
 obtain⟨oi,ei,ci,di⟩:=I.ex
 unfold pyNext
 refine wpAny_bind (wpAny_attempt (wpAny_callSpecial?_slot (name:=Str.ofString "__next__") (eQ I) dR (wpAny_call_entry dR (eQ I) kA ?_ (lG _))))
 unfold Builtin.«set_iterator.__next__»
 refine wpAny_bind (wpAny_pure ?_)
 refine wpAny_bind (wpAny_fieldsOf ei di ?_)
 dsimp only
 refine wpAny_bind (wpAny_setEntries_of ho hd W.fits ?_)
 rw[if_neg (by simp)]
 refine wpAny_bind ?_
 show wpAny _ _ (setNext a (at_ w t es.size) es.size ep) _ _ _
 refine vw W ?_
 dsimp only
 refine wpAny_bind (wpAny_setField ei di (by simp) (wpAny_bind ?_))
 simp only[newExc,newTuple]
 refine wpAny_bind (wpAny_newObj_type (wpAny_bind (m:=firstArgMember _ _) (wpAny_of_eq (a:=Value.none) (by first|rfl|(simp only[firstArgMember];rfl)) (wpAny_newObj_type ?_ (by size_fits)))) (by size_fits))
 simp only[raiseNew]
 refine wpAny_bind (wpAny_handled ?_)
 rw[show A.in1.handled=none from hh]
 refine wpAny_bind (wpAny_pure (wpAny_throw ?_))
 refine wpAny_bind (wpAny_isInstance (T:="StopIteration") (b:=true) ⟨_,Heap.get?_push_size _ rfl,rfl⟩ isSubtype_stop ?_)
 rw[if_pos rfl]
 exact wpAny_pure (h _ (((Heap.SameBut.update ..).extBut.push _).push _))
theorem vy (W:Wk w s.heap a es ep t) {Q:Value->Shared->Prop}(h:Q (.ref s.heap.objs.size) { s with heap:=s.heap.push { cls:=.type "set_iterator",data:=.fields #[.int 0 0,.int 0 0,.ref a,.int es.size 0,.int ep 0] } }):wpAny (model prog w) A (pyIter (.ref a)) Q E s:=by
 obtain⟨o,ho,hx,hd⟩:=W.ob
 have hT:s.TypeIs (.ref a) "set":=⟨o,ho,hx.1⟩
 refine wpAny_pyIter_slot hT PySem.F.slot_set_iter (wpAny_call_entry PySem.F.slot_set_iter hT mI ?_ (PySem.F.args_set_iter_1 _))
 unfold Builtin.«frozenset.__iter__» Builtin.Frozenset.slot0 slotArgs
 simp only[List.isEmpty_nil,Bool.not_true,Bool.false_eq_true,↓reduceIte,bind_assoc,List.length_nil,bne_self_eq_false]
 unfold Builtin.Frozenset.addrOf Builtin.Frozenset.sizeOf
 refine wpAny_bind (wpAny_pure ?_)
 try dsimp only
 refine wpAny_bind (wpAny_pure ?_)
 refine wpAny_bind (wpAny_bind (wpAny_setEntries_of ho hd W.fits (wpAny_pure ?_)))
 unfold setDrawn
 refine wpAny_bind (wpAny_bind (wpAny_setState_of ho hd W.fits (wpAny_bind (fP (wpAny_pure ?_)))))
 have dr:(!eA w&&(!t.plain&&decide (es.size > 1)))=false:=by rw[W.pl];simp
 show wpAny _ _ (if (!eA w&&(!t.plain&&decide (es.size > 1)))=true then _ else _) _ _ _
 rw[dr,if_neg Bool.false_ne_true]
 refine wpAny_bind (wpAny_pure ?_)
 refine wpAny_bind (wpAny_setEpoch_of ho hd W.fits ?_)
 simp only[newFields]
 refine wpAny_bind (wpAny_newObj_type ?_ (by size_fits))
 exact wpAny_pure ⟨_,rfl,"set_iterator",_,⟨_,Heap.get?_push_size _ rfl,rfl⟩,dR.lookup,h⟩
end
end L2
namespace L2
open PySem PySem.Spec PyProof.Rows PySem.SetTable
theorem kP:entryFor table "set_iterator.__iter__"=some Builtin.«dict_keyiterator.__iter__»:=
 entryFor_alias (id':="dict_keyiterator.__iter__") (by kernel_rfl) rfl (by decide +kernel) (by kernel_rfl)
theorem lK (a:Value):argsOk "set_iterator.__iter__" ⟨[a],[]⟩:=by unfold argsOk;kernel_rfl
section
variable {prog:Program}{w:World}{A:Around}{E:Value->Shared->Prop}{s:Shared}{it a:Addr}{es:Array Sa.Elem}{ep i:Nat}{t:SetTable}
theorem xp (hT:s.TypeIs (.ref a) "set") {Q:Bool->Shared->Prop}(h:Q false s):wpAny (model prog w) A (Builtin.List.listLengthHint (.ref a)) Q E s:=by
 unfold Builtin.List.listLengthHint
 refine wpAny_bind (wpAny_specialOf hT PySem.F.slot_set_len.lookup ?_)
 generalize e:("set.__len__":String)=id
 wp_delta
 rw[show splitId id=some ("set","__len__") from by subst e;decide +kernel]
 subst e
 refine wpAny_bind (wpAny_isInstance (T:="set") (b:=true) hT (by rw[isSubtype_type];kernel_rfl) ?_)
 refine wpAny_ite_split (fun z=>absurd z (by decide)) fun _=>wpAny_ite_split (fun _=>wpAny_bind (wpAny_typeOf hT (wpAny_pure h))) fun z=>absurd (by decide +kernel) z
theorem Wk.keep {h h':Heap}(W:Wk w h a es ep t) (k:∀o,h.get? a=some o->h'.get? a=some o):Wk w h' a es ep t:=
 let ⟨o,e,r⟩:=W.ob;⟨⟨o,k o e,r⟩,W.rise,W.size,W.fits,W.pl,W.led⟩
theorem rZ:(wo w a ep es).size=es.size:=by rw[←Array.length_toList,(rY w a ep es).length_eq,Array.length_toList]
theorem vz (hh:A.handled=none) (hne:a≠it):Walks prog w A it [it,a] [it] es.size (fun i v=>∃e,(wo w a ep es)[i]?=some e∧v=e.2) (fun i h=>Itr' h it a (at_ w t i) i es.size ep∧Wk w h a es ep t) where
 sub:=fun b hb=>by simp at hb;simp[hb]
 frame:=fun _ _ _ st hk=>⟨⟨let ⟨o,e,r⟩:=st.1.ex;⟨o,hk it (by simp) o e,r⟩⟩,st.2.keep fun o e=>hk a (by simp) o e⟩
 item:=fun i s Q E hi st hQ=>by
  have hi':i<(wo w a ep es).size:=by rw[rZ];exact hi
  refine tN st.2 st.1 (Array.getElem?_eq_getElem hi') fun h' I' sb=>?_
  exact hQ _ h' s.toks ⟨_,Array.getElem?_eq_getElem hi',rfl⟩ ⟨I',st.2.keep fun o e=>(sb.2 a hne).trans e⟩ fun b o hb e=>(sb.2 b (by simpa using hb)).trans e
 done:=fun s Q E st hQ=>vx hh st.2 st.1 fun h' eb=>hQ h' s.toks fun b o hb e=>eb b o (by simpa using hb) e
 self:=fun i s Q E st hQ=>by
  refine wpAny_pyIter_slot (eQ st.1) gE (wpAny_call_entry gE (eQ st.1) kP ?_ (lK _))
  exact wpAny_pure ⟨_,rfl,"set_iterator",_,eQ st.1,dR.lookup,hQ⟩
theorem zw:at_ w t 0=0:=by unfold at_;split <;> rfl
theorem zx:W.KdlSrc prog w "set" a a es.size (fun i v=>∃e,(wo w a ep es)[i]?=some e∧v=e.2) (fun h=>Wk w h a es ep t) where
 type:=fun _ W=>let ⟨o,e,x,_⟩:=W.ob;⟨o,e,x.1⟩
 there:=fun _ W=>let ⟨o,e,_⟩:=W.ob;⟨Heap.lt_size e,Heap.lt_size e⟩
 keep:=fun _ _ W k=>W.keep fun o e=>k a (.inl rfl) o e
 notList:=by decide
 notTuple:=by decide
 hint:=fun _ _ _ _ W hq=>let ⟨o,e,x,_⟩:=W.ob;xp ⟨o,e,x.1⟩ hq
 iter:=fun A s hh W=>by
  obtain⟨o,e,_⟩:=W.ob
  refine⟨_,_,fun E Q hq=>vy W hq,vz hh (Nat.ne_of_lt (Heap.lt_size e)),⟨⟨_,Heap.get?_push_size _ rfl,rfl,by rw[zw];rfl⟩⟩,W.keep fun o e=>Heap.get?_push_of_some _ e⟩
end
end L2
namespace L2
open PySem PySem.Spec PyProof.Rows PySem.SetTable
section
variable {prog:Program}{w:World}{A:Around}{E:Value->Shared->Prop}{s:Shared}{a:Addr}{es:Array Sa.Elem}{ep:Nat}{t:SetTable}
theorem xq {acc:Array Value}(h:ItemsOf (fun i v=>∃e,(wo w a ep es)[i]?=some e∧v=e.2) acc es.size):acc.toList.Perm (es.toList.map (·.2)):=by
 have e:acc.toList=(wo w a ep es).toList.map (·.2):=by
  refine List.ext_getElem? fun i=>?_
  rw[List.getElem?_map,Array.getElem?_toList,Array.getElem?_toList]
  by_cases hi:i<es.size
  ·have h1:i<acc.size:=by rw[h.1];exact hi
   obtain⟨x,e1,e2⟩:=h.2 i acc[i] (Array.getElem?_eq_getElem h1)
   rw[Array.getElem?_eq_getElem h1,e1,e2]
   rfl
  ·rw[Array.getElem?_eq_none (by rw[h.1];omega),Array.getElem?_eq_none (by rw[rZ];omega)]
   rfl
 rw[e]
 exact(rY w a ep es).map _
theorem rj (hh:A.handled=none) (W:Wk w s.heap a es ep t) (hn:es.size<64) {Q:List Value->Shared->Prop}
  (h:∀h' tk vs,(∀b o,s.heap.get? b=some o->h'.get? b=some o)->s.heap.objs.size≤h'.objs.size->vs.Perm (es.toList.map (·.2))->Q vs { s with heap:=h',toks:=tk }):wpAny (model prog w) A (collect (.ref a)) Q E s:=by
 obtain⟨o,ho,hx,hd⟩:=id W.ob
 have ne:s.heap.objs.size≠a:=Nat.ne_of_gt (Heap.lt_size ho)
 have fin:∀h' tk acc' c',(∀b o,b≠s.heap.objs.size->(s.heap.push (seqObj "list" #[] 0)).get? b=some o->h'.get? b=some o)->h'.get? s.heap.objs.size=some { cls:=.type "list",dict:=none,data:=.seq acc' c',slots:=#[] }->
   ItemsOf (fun i v=>∃e,(wo w a ep es)[i]?=some e∧v=e.2) acc' es.size->Q acc'.toList { s with heap:=h',toks:=tk }:=fun h' tk acc' c' k1 e1 it=>
  h h' tk acc'.toList (fun b o e=>k1 b o (Nat.ne_of_lt (Heap.lt_size e)) (Heap.get?_push_of_some _ e)) (Nat.le_of_lt (Heap.lt_size e1)) (xq it)
 unfold collect
 refine wpAny_bind (wpAny_runValue (codeAny_builtin entry_proto_collect' ?_))
 rw[Around.under_plainId PySem.F.plain_proto_collect _]
 refine wpAny_bind (wpAny_newList ?_ (Nat.zero_le _))
 refine wpAny_pure ⟨plainId_quiet PySem.F.plain_list_iadd _,codeAny_builtin entry_list_iadd' ?_⟩
 rw[Around.under_plainId PySem.F.plain_list_iadd _]
 refine wpAny_mono (PySem.W.kdl_extend (A:=A) (s:={ s with heap:=s.heap.push (seqObj "list" #[] 0) }) (R:=fun q s'=>∃acc' c',q=.ok (.ret (.ref s.heap.objs.size))∧s'.heap.get? s.heap.objs.size=some { cls:=.type "list",dict:=none,data:=.seq acc' c',slots:=#[] }∧Q acc'.toList s') (zx (a:=a) (es:=es) (ep:=ep) (t:=t)) hh (W.keep fun o e=>Heap.get?_push_of_some _ e) s.heap.objs.size ne ne (.ref s.heap.objs.size) 0 (Heap.get?_push_size _ rfl)
  (fun h' tk acc' c' k1 e1 it=>⟨acc',c',rfl,e1,fin h' tk acc' c' k1 e1 it⟩) (by rw[sizeLine_eq];omega)) (fun f s' x=>?_) fun e s' ⟨_,_,z,_⟩=>by cases z
 have done:∀s',(∃acc' c',s'.heap.get? s.heap.objs.size=some { cls:=.type "list",dict:=none,data:=.seq acc' c',slots:=#[] }∧Q acc'.toList s')->wpAny (model prog w) A (load s.heap.objs.size >>= fun o=>match o.data with | .seq xs _=>pure xs.toList|_=>unsupported "internal:collect") Q E s':=fun s' ⟨_,_,e,q⟩=>wpAny_bind (wpAny_load e (wpAny_pure q))
 cases f with
 | done f=>
  obtain⟨acc',c',e,e1,q⟩:=x
  cases e
  exact done s' ⟨acc',c',e1,q⟩
 | again c=>
  refine⟨x.1,codeAny_mono x.2 fun q s₂ ⟨acc',c',e,e1,q⟩=>?_⟩
  subst e
  exact done s₂ ⟨acc',c',e1,q⟩
theorem tP (hh:A.handled=none) (W:Wk w s.heap a es ep t) {kss:List (List Int)}(p:Paired (iK s.heap) (es.toList.map (·.2)) kss) (hne:∀ks∈kss,ks≠[]) (hn:es.size<64) {Q:Value->Shared->Prop}
  (h:∀h' tk l (out:Array Value) c,(∀b o,s.heap.get? b=some o->h'.get? b=some o)->s.heap.objs.size≤l->h'.get? l=some (seqObj "list" out c)->out.toList.Perm (es.toList.map (·.2))->jp (out.toList.map (bT s.heap))->Q (.ref l) { s with heap:=h',toks:=tk }) :
  wpAny (model prog w) A (call (.builtin "sorted") [.ref a]) Q E s:=by
 refine Calls.call_function_entry kind_sorted plain_sorted entry_sorted (args_sorted1 _) ?_
 unfold Builtin.«sorted»
 refine wpAny_bind (m:=checkCount "sorted" 1 1 _) (wpAny_pure (wpAny_bind (rj (by simp[hh]) W hn fun h1 tk vs k1 lt pm=>wpAny_bind (wpAny_newList ?_ (by rw[sizeLine_eq,pm.length_eq,List.length_map,Array.length_toList];omega)))))
 obtain⟨kss',pv,pk⟩:=kz pm p
 have len:vs.length=es.size:=by rw[pm.length_eq,List.length_map,Array.length_toList]
 have hL:(h1.push (seqObj "list" vs.toArray 0)).get? h1.objs.size=some (seqObj "list" vs.toArray 0):=Heap.get?_push_size _ rfl
 have up:∀{ks:List Int}{b:Addr},bE s.heap ks b->bE (h1.push (seqObj "list" vs.toArray 0)) ks b:=fun x=>kO x fun b o _ e=>Heap.get?_push_of_some _ (k1 b o e)
 refine wpAny_bind (wpAny_holding (wpAny_call_entry PyProof.Rows.slot_list_sort ⟨_,hL,rfl⟩ PyProof.Rows.entry_list_sort (pJ (s:={ s with heap:=h1.push (seqObj "list" vs.toArray 0),toks:=tk }) hL (ay (fun _ _ ⟨b,e,x⟩=>⟨b,e,up x⟩) pv) (fun ks hk=>hne ks (pk.mem_iff.mp hk)) (by omega) fun out q1 q2=>⟨_,rfl,wpAny_pure ⟨_,rfl,?_⟩⟩) (args_list_sort _)))
 obtain⟨e1,o1⟩:∃e1,((h1.push (seqObj "list" vs.toArray 0)).update h1.objs.size (Obj.mapSeq fun _=>#[])).get? h1.objs.size=some (seqObj "list" #[] e1):=⟨_,get?_update_seq hL _⟩
 have o2:((((h1.push (seqObj "list" vs.toArray 0)).update h1.objs.size (Obj.mapSeq fun _=>#[])).push (seqObj "tuple" vs.toArray 0)).push (seqObj "list" #[] 0)).get? h1.objs.size=some (seqObj "list" #[] e1):=Heap.get?_push_of_some _ (Heap.get?_push_of_some _ o1)
 refine h _ _ h1.objs.size out _ (fun b o e=>?_) lt (get?_update_seq o2 _) (q1.trans pm) ?_
 ·have ne:b≠h1.objs.size:=Nat.ne_of_lt (Heap.lt_size (k1 b o e))
  refine(Heap.get?_update_other _ _ (Ne.symm ne)).trans (Heap.get?_push_of_some _ (Heap.get?_push_of_some _ ((Heap.get?_update_other _ _ (Ne.symm ne)).trans (Heap.get?_push_of_some _ (k1 b o e)))))
 ·have ee:out.toList.map (bT s.heap)=out.toList.map (bT (h1.push (seqObj "list" vs.toArray 0))):=List.map_congr_left fun v hv=>by
   obtain⟨ks,_,b,e,x⟩:=eO pv v (q1.mem_iff.mp hv)
   rw[e,dQ x,dQ (up x)]
  rw[ee]
  exact q2
end
def gy (w:World) (a:Addr) (bs:List Addr):HO:=.ext fun h=>∃es ep t,Wk w h a es ep t∧es.size<70∧es.toList.map (·.2)=bs.map Value.ref
theorem zy {P:Program}{w:World}{H:Hp}{h:Heap}{a:Addr}{bs:List Addr}(x:∃es ep t,Wk w h a es ep t∧es.size<70∧es.toList.map (·.2)=bs.map Value.ref):bc P w H h a (gy w a bs):=by
 refine⟨x,?_,fun h1 h2 ⟨es,ep,t,W,r⟩ k=>⟨es,ep,t,W.keep fun o e=>k o e,r⟩⟩
 obtain⟨_,_,_,W,_⟩:=x
 obtain⟨o,e,_⟩:=W.ob
 exact⟨o,e⟩
def EKind.only {prog:Program}{w:World}{K:Type} [DecidableEq K] (Y:EKind prog w K) (G:K->Addr->Prop):EKind prog w K where
 knd:={
  is:=fun h x b=>Y.knd.is h x b∧G x b
  hash:=Y.knd.hash
  draws:=Y.knd.draws
  room:=Y.knd.room
  inj:=fun p q=>Y.knd.inj p.1 q.1
  keeps:=fun p ho hd hs=>⟨Y.knd.keeps p.1 ho hd hs,p.2⟩
  pyHash:=fun hu hk h=>Y.knd.pyHash hu hk.1 h
  eqBool:=fun hu hx hy h=>Y.knd.eqBool hu hx.1 hy.1 h
  quiet:=fun hk h=>Y.knd.quiet hk.1 h }
 byVal:=fun hk h=>Y.byVal hk.1 h
 noCls:=fun hk h=>Y.noCls hk.1 h
 keep:=fun hk k=>⟨Y.keep hk.1 k,hk.2⟩
theorem yb {α β γ:Type}{F:α->β->Prop}{G:γ->β->Prop}{f:α->γ}(h:∀a b,F a b->G (f a) b):∀{l:List α}{m:List β},Paired F l m->Paired G (l.map f) m
 | _,_,.nil=>.nil
 | _,_,.cons r t=>.cons (h _ _ r) (yb h t)
theorem bP {K:Type} [DecidableEq K]:∀(a c:List K),a.Nodup->(∀x∈a,x∈c)->a.length≤c.length:=by
 intro a
 induction a with
 | nil=>intro c _ _;exact Nat.zero_le _
 | cons x a ih'=>
  intro c nd hs
  rw[List.nodup_cons] at nd
  have hx:=hs x List.mem_cons_self
  have:=ih' (c.erase x) nd.2 fun y hy=>(List.mem_erase_of_ne (by rintro rfl;exact nd.1 hy)).mpr (hs y (List.mem_cons_of_mem _ hy))
  rw[List.length_erase_of_mem hx] at this
  have hp:0<c.length:=List.length_pos_of_mem hx
  simp only[List.length_cons]
  omega
section
variable {X:Cx}
theorem nA {K:Type} [DecidableEq K] (k:Dk K) (Y:EKind X.prog X.w K) (hr:Y.knd.room X.A.in1.in1.in1) (hc:X.calm=true) (hk:∀{aa:List (Addr×Obj)}{σ:St}{H:Hp}{s:Shared}{b:Addr}{x:K},Inv X aa σ H s->k.rep X.K H (.ref b) x->Y.knd.is s.heap x b)
  (href:∀{K':W.Frag}{H:Hp}{v:V}{x:K},k.rep K' H v x->∃b,v=.ref b) :
  cS X (.type "set") (fun xs H Q=>∃(y:V) (keys:List K),xs=[y]∧(e9 k).rep X.K H y keys∧keys.length<70∧∀(p:Addr) (bs:List Addr) (ks:List K),H p=none->Paired (fun b x=>k.rep X.K H (.ref b) x) bs ks->ks.Nodup->(∀x,x∈ks↔x∈keys)->Q (.ref p) (upd H p (gy X.w p bs))):=by
 intro aa s σ H xs us Q I r h
 obtain⟨y,keys,rfl,⟨p,as,e,hp,hd⟩,hl,q⟩:=h
 subst e
 obtain⟨u,rfl,ru⟩:=eE r
 cases ru
 obtain⟨its,rv,pl,hz⟩:=I.list hp
 have kd:Paired (fun v x=>∃b,v=Value.ref b∧k.rep X.K H (.ref b) x) its keys:=lE (F:=aF) (G:=k.rep X.K H) (fun x u kx h1 h2=>by
  obtain⟨b,rfl⟩:=href h2
  cases h1
  exact⟨b,rfl,h2⟩) rv hd
 have kd':Paired (xm (Y.only fun x b=>k.rep X.K H (.ref b) x) s.heap) its.toArray.toList keys:=ay (fun _ _ ⟨b,e,z⟩=>⟨b,e,hk I z,z⟩) kd
 refine ri (X:=Y.only fun x b=>k.rep X.K H (.ref b) x) (I.ok.hd hc) hr pl.isList kd' hl fun h' tk k1 F=>?_
 obtain⟨o,es,ep,t,ks,S,m,ld⟩:=F
 have len:es.size=ks.length:=by rw[←Array.length_toList];exact S.el.length
 have le70:ks.length<70:=Nat.lt_of_le_of_lt (bP ks keys S.nd fun x hx=>(m x).mp hx) hl
 have each:∀{l:List Sa.Elem}{js:List K},Paired (El (Y.only fun x b=>k.rep X.K H (.ref b) x) h') l js->∃bs:List Addr,l.map (·.2)=bs.map Value.ref∧Paired (fun b x=>k.rep X.K H (.ref b) x) bs js:=by
  intro l js pr
  induction pr with
  | nil=>exact⟨[],rfl,.nil⟩
  | @cons e x l js h1 _ ih=>
   obtain⟨b,e1,e2,_⟩:=h1
   obtain⟨bs,i1,i2⟩:=ih
   exact⟨b::bs,by rw[List.map_cons,List.map_cons,i1,e1],.cons e2.2 i2⟩
 obtain⟨bs,b1,b2⟩:=each S.el
 refine⟨.ref s.heap.objs.size,_,I.laid (o:=gy X.w s.heap.objs.size bs) k1 (Nat.le_refl _) ?_,rfl,q _ bs ks (I.hok.fresh (Nat.le_refl _)) b2 S.nd m⟩
 exact zy ⟨es,ep,t,⟨⟨o,S.ob,S.ex,S.dt⟩,S.full.tab.rise,S.full.size,SetAt.fits (s:={ s with heap:=h' }) S,S.pl,ld⟩,by omega,b1⟩
theorem vA {aa:List (Addr×Obj)}{σ:St}{H:Hp}{s:Shared}{a:Addr}{bs:List Addr}(I:Inv X aa σ H s) (ha:H a=some (gy X.w a bs)):∃es ep t,Wk X.w s.heap a es ep t∧es.size<70∧es.toList.map (·.2)=bs.map Value.ref:=(show bc X.prog X.w H s.heap a (gy X.w a bs) from I.hok a _ ha).1
theorem vB:cS X (.builtin "len") (fun xs H Q=>∃p bs,xs=[V.ref p]∧H p=some (gy X.w p bs)∧Q (.int bs.length) H):=by
 intro aa s σ H xs us Q I r h
 obtain⟨p,bs,rfl,hp,q⟩:=h
 obtain⟨u,rfl,ru⟩:=eE r
 cases ru
 obtain⟨es,ep,t,W,lt,eq⟩:=vA I hp
 obtain⟨o,e1,e2,e3⟩:=id W.ob
 have len:es.size=bs.length:=by have:=congrArg List.length eq;simpa using this
 exact call_len_set e1 e2 e3 W.fits (by omega) ⟨.int bs.length,H,I.tok _,⟨_,by rw[len]⟩,q⟩
theorem pT (hc:X.calm=true):cS X (.builtin "sorted") (fun xs H Q=>∃(p:Addr) (bs:List Addr) (kss:List (List Int)),xs=[.ref p]∧H p=some (gy X.w p bs)∧Paired (fun b x=>av.rep X.K H (.ref b) x) bs kss∧(∀ks∈kss,ks≠[])∧kss.length<64∧
  ∀(l:Addr) (as':List V) (kss':List (List Int)),H l=none->Paired (av.rep X.K H) as' kss'->kss'.Perm kss->jp kss'->Q (.ref l) (upd H l (.lst as'))):=by
 intro aa s σ H xs us Q I r h
 obtain⟨p,bs,kss,rfl,hp,hd,hne,h64,q⟩:=h
 obtain⟨u,rfl,ru⟩:=eE r
 cases ru
 obtain⟨es,ep,t,W,lt,eq⟩:=vA I hp
 have len:es.size=bs.length:=by have:=congrArg List.length eq;simpa using this
 have len2:=hd.length
 have rv:∀l:List Addr,az (l.map V.ref) (l.map Value.ref):=fun l=>by
  induction l with
  | nil=>exact .nil
  | cons b l ih=>exact .cons rfl ih
 obtain⟨pt,back⟩:=ky (h:=s.heap) (fun a ks z=>oy I z) (rv bs) (yb (G:=av.rep X.K H) (fun b x z=>z) hd)
 rw[←eq] at pt back
 refine tP (I.ok.hd hc) W pt hne (by omega) fun h' tk l out c k1 le e1 q1 q2=>?_
 have each:∀v∈out.toList,∃a ks,v=.ref a∧av.rep X.K H (.ref a) ks∧bT s.heap v=ks:=fun v hv=>back v (q1.mem_iff.mp hv)
 have mk:∀l:List Value,(∀v∈l,∃a ks,v=.ref a∧av.rep X.K H (.ref a) ks∧bT s.heap v=ks)->az (l.map toV) l∧Paired (av.rep X.K H) (l.map toV) (l.map (bT s.heap)):=by
  intro l
  induction l with
  | nil=>intro _;exact⟨.nil,.nil⟩
  | cons v l ih=>
   intro hl
   obtain⟨i1,i2⟩:=ih fun u hu=>hl u (List.mem_cons_of_mem _ hu)
   obtain⟨a,ks,e1,e2,e3⟩:=hl v List.mem_cons_self
   subst e1
   exact⟨.cons rfl i1,.cons (by rw[e3];exact e2) i2⟩
 obtain⟨v1,v2⟩:=mk out.toList each
 have hkf:=pI pt
 have hlen:=q1.length_eq
 rw[List.length_map,Array.length_toList,Array.length_toList] at hlen
 refine⟨.ref l,_,I.laid (o:=.lst (out.toList.map toV)) k1 le ⟨by rw[List.length_map,sizeLine_eq,Array.length_toList];omega,out.toList,c,v1,by simpa [seqObj] using e1⟩,rfl,q _ _ _ (I.hok.fresh le) v2 (by rw[←hkf];exact q1.map _) q2⟩
end
end L2
namespace Bk
open Mx
abbrev Room:=List (Int×Int)
abbrev ao:=List (List Int)
def lt:List Int->List Int->Prop
 | [],[]=>False
 | [],_::_=>True
 | _::_,[]=>False
 | a::as,b::bs=>a<b∨(a=b∧lt as bs)
theorem lt_irrefl:∀a:List Int,¬lt a a
 | [],h=>h
 | a::as,h=>by
  rcases h with h|⟨_,h⟩
  ·omega
  ·exact lt_irrefl as h
theorem lt_trans:∀{a b c:List Int},lt a b->lt b c->lt a c
 | [],[],_,h,_=>h.elim
 | [],_::_,[],_,h=>h.elim
 | [],_::_,_::_,_,_=>trivial
 | _::_,[],_,h,_=>h.elim
 | _::_,_::_,[],_,h=>h.elim
 | a::as,b::bs,c::cs,h1,h2=>by
  rcases h1 with h1|⟨rfl,h1⟩
  ·rcases h2 with h2|⟨rfl,h2⟩
   ·exact .inl (by omega)
   ·exact .inl h1
  ·rcases h2 with h2|⟨rfl,h2⟩
   ·exact .inl h2
   ·exact .inr ⟨rfl,lt_trans h1 h2⟩
theorem xr {a b:List Int}(h:lt a b) (h':lt b a):False:=lt_irrefl a (lt_trans h h')
theorem pU:∀(a b:List Int),lt a b∨a=b∨lt b a
 | [],[]=>.inr (.inl rfl)
 | [],_::_=>.inl trivial
 | _::_,[]=>.inr (.inr trivial)
 | a::as,b::bs=>by
  rcases Int.lt_trichotomy a b with h|rfl|h
  ·exact .inl (.inl h)
  ·rcases pU as bs with h|rfl|h
   ·exact .inl (.inr ⟨rfl,h⟩)
   ·exact .inr (.inl rfl)
   ·exact .inr (.inr (.inr ⟨rfl,h⟩))
  ·exact .inr (.inr (.inl h))
def bK (os:ao):Prop:=os.Pairwise lt
theorem bK.nodup {os:ao}(h:bK os):os.Nodup:=by
 unfold List.Nodup
 refine List.Pairwise.imp (R:=lt) ?_ h
 intro a b h e
 subst e
 exact lt_irrefl _ h
theorem lL {α β:Type}{f g:α->List β}:∀{l:List α},(∀a∈l,f a=g a)->l.flatMap f=l.flatMap g
 | [],_=>rfl
 | a::l,h=>by rw[List.flatMap_cons,List.flatMap_cons,h a List.mem_cons_self,lL fun b hb=>h b (List.mem_cons_of_mem _ hb)]
theorem bK.eq {xs ys:ao}(hx:bK xs) (hy:bK ys) (h:∀o,o∈xs↔o∈ys):xs=ys:=by
 have p:xs.Perm ys:=(List.perm_ext_iff_of_nodup hx.nodup hy.nodup).mpr h
 exact List.Perm.eq_of_pairwise (fun a b _ _ h1 h2=>(xr h1 h2).elim) hx hy p
def cZ (t:Int):List Int->Option (List Int)
 | x::r=>if x=t then some r else none
 | []=>none
def rests (t:Int) (os:ao):ao:=os.filterMap (cZ t)
theorem aZ {t:Int}{os:ao}{r:List Int}:r∈rests t os↔t::r∈os:=by
 simp only[rests,List.mem_filterMap]
 constructor
 ·rintro⟨o,ho,h⟩
  cases o with
  | nil=>cases h
  | cons x r'=>
   simp only[cZ] at h
   split at h
   ·rename_i e
    cases h
    subst e
    exact ho
   ·cases h
 ·intro h
  exact⟨_,h,by simp[cZ]⟩
def heads (os:ao):List Int:=(aE 8).filter fun t=>!(rests t os).isEmpty
theorem bF {t:Int}{os:ao}:t∈heads os↔(0≤t∧t<8)∧∃r,t::r∈os:=by
 rw[heads,List.mem_filter,bD]
 constructor
 ·rintro⟨h1,h2⟩
  refine⟨by simpa using h1,?_⟩
  cases e:rests t os with
  | nil=>rw[e] at h2;cases h2
  | cons r rs=>exact⟨r,aZ.mp (by rw[e];exact List.mem_cons_self)⟩
 ·rintro⟨h1,r,h2⟩
  refine⟨by simpa using h1,?_⟩
  have:=aZ.mpr h2
  cases e:rests t os with
  | nil=>rw[e] at this;cases this
  | cons r rs=>rfl
theorem cr (os:ao):(heads os).Pairwise (· < ·):=by
 unfold heads
 refine List.Pairwise.filter _ ?_
 unfold aE
 rw[List.pairwise_map]
 exact(List.pairwise_lt_range (n:=8)).imp (fun h=>by omega)
def fc (os os':ao):Prop:=∀o,o∈os↔o∈os'
theorem fc.rests {os os':ao}(h:fc os os') (t:Int):fc (rests t os) (rests t os'):=fun o=>by rw[aZ,aZ];exact h _
theorem nB {α:Type}{p q:α->Bool}:∀{l:List α},(∀a∈l,p a=q a)->l.filter p=l.filter q
 | [],_=>rfl
 | a::l,h=>by
  have ih:=nB (l:=l) fun b hb=>h b (List.mem_cons_of_mem _ hb)
  rw[List.filter_cons,List.filter_cons,h a List.mem_cons_self,ih]
theorem fc.heads {os os':ao}(h:fc os os'):heads os=heads os':=by
 unfold Bk.heads
 refine nB fun t _=>?_
 have hr:=h.rests t
 cases e:Bk.rests t os with
 | nil=>
  cases e':Bk.rests t os' with
  | nil=>rfl
  | cons r rs=>
   have:=(hr r).mpr (by rw[e'];exact List.mem_cons_self)
   rw[e] at this
   cases this
 | cons r rs=>
  cases e':Bk.rests t os' with
  | nil=>
   have:=(hr r).mp (by rw[e];exact List.mem_cons_self)
   rw[e'] at this
   cases this
  | cons r rs=>rfl
def keep (rs:List Room) (r:Room):Nat×List Room:=if r∈rs then (rs.idxOf r+2,rs) else (rs.length+2,rs++[r])
def aN (f:ao->List Room->Nat×List Room) (os:ao):List Int->List Room->Room×List Room
 | [],rs=>([],rs)
 | t::ts,rs=>((t,((f (rests t os) rs).1:Int))::(aN f os ts (f (rests t os) rs).2).1,(aN f os ts (f (rests t os) rs).2).2)
def lay:Nat->ao->List Room->Nat×List Room
 | 0,_,rs=>(1,rs)
 | n+1,os,rs=>keep (aN (lay n) os (heads os) rs).2 (aN (lay n) os (heads os) rs).1
theorem nC {f:ao->List Room->Nat×List Room}{os os':ao}(hf:∀o o' rs,fc o o'->f o rs=f o' rs) (h:fc os os'):∀ts rs,aN f os ts rs=aN f os' ts rs
 | [],_=>rfl
 | t::ts,rs=>by
  have e:=hf _ _ rs (h.rests t)
  unfold aN
  rw[e,nC hf h ts]
theorem kQ:∀(n:Nat) {os os':ao}(rs:List Room),fc os os'->lay n os rs=lay n os' rs
 | 0,_,_,_,_=>rfl
 | n+1,os,os',rs,h=>by
  unfold lay
  rw[h.heads,nC (fun o o' rs h=>kQ n rs h) h]
theorem gF (rs:List Room) (r:Room):∃i,(keep rs r).1=i+2∧(keep rs r).2[i]?=some r∧i<(keep rs r).2.length∧rs <+: (keep rs r).2:=by
 unfold keep
 split
 ·rename_i h
  refine⟨rs.idxOf r,rfl,?_,List.idxOf_lt_length_of_mem h,List.prefix_rfl⟩
  rw[List.getElem?_eq_getElem (List.idxOf_lt_length_of_mem h),List.getElem_idxOf]
 ·exact⟨rs.length,rfl,by simp,by simp,List.prefix_append _ _⟩
theorem dc (rs:List Room) (r:Room):(keep rs r).2=rs∨(r∉rs∧(keep rs r).2=rs++[r]∧(keep rs r).1=rs.length+2):=by
 unfold keep
 split
 ·exact .inl rfl
 ·rename_i h
  exact .inr ⟨h,rfl,rfl⟩
def eR (rows:List ao) (r:Room):List ao:=rows++[r.flatMap fun d=>(rows.getD d.2.toNat []).map (d.1::·)]
def bj (rs:List Room):List ao:=rs.foldl eR [[],[[]]]
def sem (rs:List Room) (k:Nat):ao:=(bj rs).getD k []
theorem nE:∀(rs:List Room) (a:List ao),(rs.foldl eR a).length=a.length+rs.length
 | [],_=>rfl
 | r::rs,a=>by
  rw[List.foldl_cons,nE rs]
  simp[eR]
  omega
theorem du (rs:List Room):(bj rs).length=rs.length+2:=by
 rw[bj,nE]
 simp
 omega
theorem ju:∀(rs:List Room) (a:List ao),a <+: rs.foldl eR a
 | [],_=>List.prefix_rfl
 | r::rs,a=>by
  rw[List.foldl_cons]
  exact(List.prefix_append _ _).trans (ju rs _)
theorem pV {α:Type}{a b:List α}{k:Nat}{d:α}(h:a <+: b) (hk:k<a.length):b.getD k d=a.getD k d:=by
 obtain⟨c,rfl⟩:=h
 rw[List.getD_eq_getElem?_getD,List.getD_eq_getElem?_getD,List.getElem?_append_left hk]
theorem fB {rs rs':List Room}{k:Nat}(h:rs <+: rs') (hk:k<rs.length+2):sem rs' k=sem rs k:=by
 obtain⟨m,rfl⟩:=h
 unfold sem bj
 rw[List.foldl_append]
 exact pV (ju m _) (by have:=du rs;unfold bj at this;omega)
theorem iM {rs:List Room}{i:Nat}{r:Room}(h:rs[i]?=some r) (hd:∀d∈r,d.2.toNat<i+2):sem rs (i+2)=r.flatMap fun d=>(sem rs d.2.toNat).map (d.1::·):=by
 obtain⟨hi,e⟩:=List.getElem?_eq_some_iff.mp h
 have e1:rs=rs.take i++(r::rs.drop (i+1)):=by
  rw[←e,List.getElem_cons_drop,List.take_append_drop]
 have p1:rs.take i <+: rs:=List.take_prefix _ _
 have p2:rs.take i++[r] <+: rs:=⟨rs.drop (i+1),by rw[List.append_assoc];exact e1.symm⟩
 have l1:(rs.take i).length=i:=by rw[List.length_take];omega
 rw[fB p2 (by rw[List.length_append,l1];simp)]
 have e2:bj (rs.take i++[r])=eR (bj (rs.take i)) r:=by
  unfold bj
  rw[List.foldl_append]
  rfl
 unfold sem
 rw[e2]
 unfold eR
 rw[List.getD_eq_getElem?_getD,List.getElem?_append_right (by rw[du,l1];exact Nat.le_refl _),du,l1]
 simp only[Nat.sub_self,List.getElem?_cons_zero,Option.getD_some]
 refine lL fun d hd'=>?_
 have:=fB p1 (k:=d.2.toNat) (by rw[l1];exact hd d hd')
 unfold sem at this
 rw[←this]
theorem cW (rs:List Room):sem rs 1=[[]]:=by rw[fB (rs:=[]) (List.nil_prefix) (by simp)];rfl
theorem pW (rs:List Room):sem rs 0=[]:=by rw[fB (rs:=[]) (List.nil_prefix) (by simp)];rfl
structure Room.Ok (i:Nat) (r:Room):Prop where
 ne:r≠[]
 ahead:∀d∈r,1≤d.2∧d.2<(i:Int)+2
 rise:(r.map (·.1)).Pairwise (· < ·)
def WF (rs:List Room):Prop:=∀i r,rs[i]?=some r->Room.Ok i r
theorem WF.snoc {rs:List Room}{r:Room}(h:WF rs) (hr:Room.Ok rs.length r):WF (rs++[r]):=fun i r' e=>by
 by_cases hi:i<rs.length
 ·rw[List.getElem?_append_left hi] at e
  exact h i r' e
 ·have hl:i<(rs++[r]).length:=(List.getElem?_eq_some_iff.mp e).1
  rw[List.length_append] at hl
  have:i=rs.length:=by simp at hl;omega
  subst this
  rw[List.getElem?_append_right (Nat.le_refl _)] at e
  simp at e
  subst e
  exact hr
structure Tells (rs:List Room) (k:Nat) (os:ao):Prop where
 lo:1≤k
 hi:k<rs.length+2
 rise:bK (sem rs k)
 mem:fc (sem rs k) os
theorem Tells.pre {rs rs':List Room}{k:Nat}{os:ao}(t:Tells rs k os) (h:rs <+: rs'):Tells rs' k os:=by
 have e:=fB h t.hi
 have hl:=h.length_le
 exact⟨t.lo,by have:=t.hi;omega,by rw[e];exact t.rise,by rw[e];exact t.mem⟩
structure Doors (rs:List Room) (os:ao) (ts:List Int) (ds:Room):Prop where
 things:ds.map (·.1)=ts
 tells:∀d∈ds,1≤d.2∧Tells rs d.2.toNat (rests d.1 os)
def pX (f:ao->List Room->Nat×List Room) (n:Nat):Prop:=∀(os:ao) (rs:List Room),(∀o∈os,o.length=n∧∀x∈o,0≤x∧x<8)->os≠[]->WF rs->WF (f os rs).2∧rs <+: (f os rs).2∧Tells (f os rs).2 (f os rs).1 os
theorem dH {f:ao->List Room->Nat×List Room}{n:Nat}{os:ao}(hf:pX f n) (hos:∀o∈os,o.length=n+1∧∀x∈o,0≤x∧x<8) :
  ∀(ts:List Int) (rs:List Room),(∀t∈ts,t∈heads os)->WF rs->WF (aN f os ts rs).2∧rs <+: (aN f os ts rs).2∧Doors (aN f os ts rs).2 os ts (aN f os ts rs).1
 | [],rs,_,h=>⟨h,List.prefix_rfl,rfl,fun d hd=>by cases hd⟩
 | t::ts,rs,ht,h=>by
  obtain⟨_,r,hr⟩:=bF.mp (ht t List.mem_cons_self)
  obtain⟨w1,p1,t1⟩:=hf (rests t os) rs (fun o ho=>by
   have:=hos _ (aZ.mp ho)
   exact⟨by simpa using this.1,fun x hx=>this.2 x (List.mem_cons_of_mem _ hx)⟩) (fun e=>by
   have:=aZ.mpr hr
   rw[e] at this
   cases this) h
  obtain⟨w2,p2,d2⟩:=dH hf hos ts (f (rests t os) rs).2 (fun t' h'=>ht t' (List.mem_cons_of_mem _ h')) w1
  unfold aN
  refine⟨w2,p1.trans p2,by simp[d2.things],fun d hd=>?_⟩
  rcases List.mem_cons.mp hd with rfl|hd
  ·refine⟨by have:=t1.lo;simp;omega,?_⟩
   simp only[Int.toNat_natCast]
   exact t1.pre p2
  ·exact d2.tells d hd
theorem vC {t:Int}{os:ao}(h:bK os):bK (os.map (t::·)):=by
 unfold bK at h ⊢
 rw[List.pairwise_map]
 exact h.imp fun h=>.inr ⟨rfl,h⟩
theorem jv {g:Int×Int->ao}:∀{r:Room},(r.map (·.1)).Pairwise (· < ·)->(∀d∈r,bK (g d))->bK (r.flatMap fun d=>(g d).map (d.1::·))
 | [],_,_=>List.Pairwise.nil
 | d::r,h,hg=>by
  rw[List.map_cons,List.pairwise_cons] at h
  rw[List.flatMap_cons]
  unfold bK
  rw[List.pairwise_append]
  refine⟨vC (hg d List.mem_cons_self),jv h.2 fun d' hd'=>hg d' (List.mem_cons_of_mem _ hd'),?_⟩
  intro a ha b hb
  obtain⟨a',_,rfl⟩:=List.mem_map.mp ha
  obtain⟨d',hd',hb⟩:=List.mem_flatMap.mp hb
  obtain⟨b',_,rfl⟩:=List.mem_map.mp hb
  exact .inl (h.1 d'.1 (List.mem_map.mpr ⟨d',hd',rfl⟩))
theorem cg:∀n,pX (lay n) n
 | 0=>fun os rs hos hne h=>by
  refine⟨h,List.prefix_rfl,Nat.le_refl _,by show 1<rs.length+2;omega,?_,?_⟩
  ·show bK (sem rs 1)
   rw[cW]
   exact List.pairwise_singleton _ _
  ·show fc (sem rs 1) os
   rw[cW]
   intro o
   constructor
   ·intro ho
    rw[List.mem_singleton.mp ho]
    cases os with
    | nil=>exact absurd rfl hne
    | cons a os=>
     have:=(hos a List.mem_cons_self).1
     rw[List.length_eq_zero_iff.mp this]
     exact List.mem_cons_self
   ·intro ho
    rw[List.length_eq_zero_iff.mp (hos o ho).1]
    exact List.mem_singleton_self _
 | n+1=>fun os rs hos hne h=>by
  obtain⟨w1,p1,d1⟩:=dH (cg n) hos (heads os) rs (fun t ht=>ht) h
  unfold lay
  generalize (aN (lay n) os (heads os) rs).2=rs1 at *
  generalize (aN (lay n) os (heads os) rs).1=ds at *
  have rise:(ds.map (·.1)).Pairwise (· < ·):=by rw[d1.things];exact cr os
  have dne:ds≠[]:=by
   intro e
   cases os with
   | nil=>exact absurd rfl hne
   | cons a os=>
    have ha:=hos a List.mem_cons_self
    cases a with
    | nil=>cases ha.1
    | cons x r=>
     have hx:x∈heads ((x::r)::os):=bF.mpr ⟨ha.2 x List.mem_cons_self,r,List.mem_cons_self⟩
     rw[←d1.things,e] at hx
     cases hx
  obtain⟨i,k1,k2,k3,k4⟩:=gF rs1 ds
  have w2:WF (keep rs1 ds).2:=by
   rcases dc rs1 ds with e|⟨_,e,_⟩
   ·rw[e];exact w1
   ·rw[e]
    refine w1.snoc ⟨dne,fun d hd=>?_,rise⟩
    have:=d1.tells d hd
    have h2:=this.2.hi
    exact⟨this.1,by omega⟩
  refine⟨w2,p1.trans k4,?_⟩
  have hsem:sem (keep rs1 ds).2 (i+2)=ds.flatMap fun d=>(sem (keep rs1 ds).2 d.2.toNat).map (d.1::·):=
   iM k2 fun d hd=>by
    have:=(w2 i ds k2).ahead d hd
    omega
  rw[k1]
  refine⟨by omega,by omega,?_,?_⟩
  ·rw[hsem]
   exact jv rise fun d hd=>((d1.tells d hd).2.pre k4).rise
  ·rw[hsem]
   intro o
   rw[List.mem_flatMap]
   constructor
   ·rintro⟨d,hd,ho⟩
    obtain⟨o',ho',rfl⟩:=List.mem_map.mp ho
    exact aZ.mp ((((d1.tells d hd).2.pre k4).mem o').mp ho')
   ·intro ho
    have h1:=hos o ho
    cases o with
    | nil=>cases h1.1
    | cons x r=>
     have hx:x∈heads os:=bF.mpr ⟨h1.2 x List.mem_cons_self,r,ho⟩
     rw[←d1.things] at hx
     obtain⟨d,hd,rfl⟩:=List.mem_map.mp hx
     exact⟨d,hd,List.mem_map.mpr ⟨r,(((d1.tells d hd).2.pre k4).mem r).mpr (aZ.mpr ho),rfl⟩⟩
end Bk
namespace Bk
open Mx
def Ends (rs:List Room) (p:Nat×List Room):Prop:=(p.2=rs∧p.1<rs.length+2)∨(p.1=p.2.length+1∧rs.length<p.2.length)
def DL (rs:List Room) (p:Room×List Room):Prop:=p.2=rs∨(rs.length<p.2.length∧∃d∈p.1,d.2=((p.2.length+1:Nat):Int))
theorem jw {f:ao->List Room->Nat×List Room}{n:Nat}{os:ao}(hf:pX f n) (he:∀(os:ao) (rs:List Room),(∀o∈os,o.length=n∧∀x∈o,0≤x∧x<8)->os≠[]->WF rs->Ends rs (f os rs)) (hos:∀o∈os,o.length=n+1∧∀x∈o,0≤x∧x<8) :
  ∀(ts:List Int) (rs:List Room),(∀t∈ts,t∈heads os)->WF rs->DL rs (aN f os ts rs)
 | [],rs,_,_=>.inl rfl
 | t::ts,rs,ht,h=>by
  obtain⟨_,r,hr⟩:=bF.mp (ht t List.mem_cons_self)
  have ho:∀o∈rests t os,o.length=n∧∀x∈o,0≤x∧x<8:=fun o ho=>by
   have:=hos _ (aZ.mp ho)
   exact⟨by simpa using this.1,fun x hx=>this.2 x (List.mem_cons_of_mem _ hx)⟩
  have hne:rests t os≠[]:=fun e=>by
   have:=aZ.mpr hr
   rw[e] at this
   cases this
  obtain⟨w1,p1,t1⟩:=hf (rests t os) rs ho hne h
  have e1:=he (rests t os) rs ho hne h
  have e2:=jw hf he hos ts (f (rests t os) rs).2 (fun t' h'=>ht t' (List.mem_cons_of_mem _ h')) w1
  unfold aN
  rcases e2 with e2|⟨l2,d,hd,e2⟩
  ·rcases e1 with⟨e1,_⟩|⟨e1,l1⟩
   ·exact .inl (e2.trans e1)
   ·refine .inr ⟨by rw[e2];exact l1,_,List.mem_cons_self,?_⟩
    show((f (rests t os) rs).1:Int)=_
    rw[e2,e1]
  ·exact .inr ⟨Nat.lt_of_le_of_lt p1.length_le l2,d,List.mem_cons_of_mem _ hd,e2⟩
theorem iO:∀(n:Nat) (os:ao) (rs:List Room),(∀o∈os,o.length=n∧∀x∈o,0≤x∧x<8)->os≠[]->WF rs->Ends rs (lay n os rs)
 | 0,os,rs,_,_,_=>.inl ⟨rfl,by show 1<rs.length+2;omega⟩
 | n+1,os,rs,hos,hne,h=>by
  have e:=jw (cg n) (iO n) hos (heads os) rs (fun t ht=>ht) h
  obtain⟨w1,p1,d1⟩:=dH (cg n) hos (heads os) rs (fun t ht=>ht) h
  have lp:=p1.length_le
  unfold lay
  generalize (aN (lay n) os (heads os) rs)=p at *
  obtain⟨ds,rs1⟩:=p
  dsimp only at *
  rcases dc rs1 ds with k|⟨_,k,k'⟩
  ·obtain⟨i,k1,k2,k3,_⟩:=gF rs1 ds
   rw[k] at k2 k3
   rcases e with e|⟨l,d,hd,e⟩
   ·have e:rs1=rs:=e
    exact .inl ⟨by rw[k];exact e,by rw[k1,←e];omega⟩
   ·have:=(w1 i ds k2).ahead d hd
    have e:d.2=((rs1.length+1:Nat):Int):=e
    omega
  ·refine .inr ⟨by rw[k,k'];simp,by rw[k];simp;omega⟩
theorem tQ {rs:List Room}{r:Room}(h:rs.Nodup):(keep rs r).2.Nodup:=by
 rcases dc rs r with e|⟨hn,e,_⟩
 ·rw[e];exact h
 ·rw[e,List.nodup_append]
  refine⟨h,by simp,?_⟩
  intro a ha b hb
  rw[List.mem_singleton.mp hb]
  rintro rfl
  exact hn ha
theorem lM {f:ao->List Room->Nat×List Room}{os:ao}(hf:∀os rs,rs.Nodup->(f os rs).2.Nodup):∀ts rs,rs.Nodup->(aN f os ts rs).2.Nodup
 | [],_,h=>h
 | t::ts,rs,h=>by
  unfold aN
  exact lM hf ts _ (hf _ _ h)
theorem nF:∀(n:Nat) (os:ao) (rs:List Room),rs.Nodup->(lay n os rs).2.Nodup
 | 0,_,_,h=>h
 | n+1,os,rs,h=>by
  unfold lay
  exact tQ (lM (nF n) _ _ h)
def aA (rs:List Room) (k:Int):Room:=(rs[(k-2).toNat]?).getD []
def walk:Nat->List Room->Int->List Int->List Int
 | 0,_,_,w=>w
 | n+1,rs,k,w=>if k∈w then w else (aA rs k).foldl (fun w d=>walk n rs d.2 w) w++[k]
theorem fD {n:Nat}{rs:List Room}{k:Int}{w:List Int}(h:k∈w):walk n rs k w=w:=by
 cases n with
 | zero=>rfl
 | succ n=>unfold walk;rw[if_pos h]
theorem jx (n:Nat):aE (n+1)=aE n++[(n:Int)]:=by unfold aE;rw[List.range_succ];simp
def se (f:ao->List Room->Nat×List Room) (n:Nat):Prop:=∀(os:ao) (rs all:List Room),(∀o∈os,o.length=n∧∀x∈o,0≤x∧x<8)->os≠[]->WF rs->(f os rs).2 <+: all->∀m,n≤m->
 walk m all ((f os rs).1:Int) (aE (rs.length+2))=aE ((f os rs).2.length+2)
theorem yc {f:ao->List Room->Nat×List Room}{n m:Nat}{os:ao}{all:List Room}(hf:pX f n) (hw:se f n) (hm:n≤m) (hos:∀o∈os,o.length=n+1∧∀x∈o,0≤x∧x<8) :
  ∀(ts:List Int) (rs:List Room),(∀t∈ts,t∈heads os)->WF rs->(aN f os ts rs).2 <+: all->
   (aN f os ts rs).1.foldl (fun w d=>walk m all d.2 w) (aE (rs.length+2))=aE ((aN f os ts rs).2.length+2)
 | [],rs,_,_,_=>rfl
 | t::ts,rs,ht,h,pa=>by
  obtain⟨_,r,hr⟩:=bF.mp (ht t List.mem_cons_self)
  have ho:∀o∈rests t os,o.length=n∧∀x∈o,0≤x∧x<8:=fun o ho=>by
   have:=hos _ (aZ.mp ho)
   exact⟨by simpa using this.1,fun x hx=>this.2 x (List.mem_cons_of_mem _ hx)⟩
  have hne:rests t os≠[]:=fun e=>by
   have:=aZ.mpr hr
   rw[e] at this
   cases this
  obtain⟨w1,p1,t1⟩:=hf (rests t os) rs ho hne h
  obtain⟨_,p2,_⟩:=dH hf hos ts (f (rests t os) rs).2 (fun t' h'=>ht t' (List.mem_cons_of_mem _ h')) w1
  unfold aN at pa ⊢
  rw[List.foldl_cons]
  have e:=hw (rests t os) rs all ho hne h (p2.trans pa) m hm
  dsimp only at e ⊢
  rw[e]
  exact yc hf hw hm hos ts _ (fun t' h'=>ht t' (List.mem_cons_of_mem _ h')) w1 pa
theorem pY:∀n,se (lay n) n
 | 0=>fun os rs all _ _ _ _ m _=>by
  show walk m all 1 (aE (rs.length+2))=aE (rs.length+2)
  exact fD (bD.mpr ⟨by omega,by omega⟩)
 | n+1=>fun os rs all hos hne h pa m hm=>by
  have he:=iO (n+1) os rs hos hne h
  rcases he with⟨e1,e2⟩|⟨e1,e2⟩
  ·rw[e1]
   exact fD (bD.mpr ⟨by omega,by omega⟩)
  ·obtain⟨m,rfl⟩:∃m',m=m'+1:=⟨m-1,by omega⟩
   obtain⟨w1,p1,d1⟩:=dH (cg n) hos (heads os) rs (fun t ht=>ht) h
   have hin:¬((lay (n+1) os rs).1:Int)∈aE (rs.length+2):=by
    rw[bD]
    omega
   unfold walk
   rw[if_neg hin]
   have hD:=yc (m:=m) (all:=all) (cg n) (pY n) (by omega) hos (heads os) rs (fun t ht=>ht) h
   have lp:=p1.length_le
   have eD:=jw (cg n) (iO n) hos (heads os) rs (fun t ht=>ht) h
   have hk:lay (n+1) os rs=keep (aN (lay n) os (heads os) rs).2 (aN (lay n) os (heads os) rs).1:=rfl
   rw[hk] at e1 e2 pa ⊢
   generalize (aN (lay n) os (heads os) rs)=p at *
   obtain⟨ds,rs1⟩:=p
   dsimp only at *
   obtain⟨i,k1,k2,k3,k4⟩:=gF rs1 ds
   have hr:aA all ((keep rs1 ds).1:Int)=ds:=by
    unfold aA
    rw[k1,show(((i+2:Nat):Int)-2).toNat=i by omega]
    obtain⟨c,rfl⟩:=pa
    rw[List.getElem?_append_left k3,k2]
    rfl
   rw[hr,hD (k4.trans pa)]
   rcases dc rs1 ds with k|⟨_,k,k'⟩
   ·rw[k] at e1 e2 k2 k3
    rw[k1] at e1
    rcases eD with eD|⟨_,d,hd,eD⟩
    ·have eD:rs1=rs:=eD
     rw[eD] at e2
     omega
    ·have:=(w1 i ds k2).ahead d hd
     have eD:d.2=((rs1.length+1:Nat):Int):=eD
     omega
   ·rw[k,k',List.length_append]
    show aE (rs1.length+2)++[((rs1.length+2:Nat):Int)]=aE (rs1.length+1+2)
    rw[show rs1.length+1+2=(rs1.length+2)+1 by omega,jx (rs1.length+2)]
end Bk
namespace Bk
open Mx
def bW (ms:List Nat) (d:Int×Int):Nat:=2 ^ d.1.toNat ||| ms.getD d.2.toNat 0
def gG (ms:List Nat) (r:Room):List Nat:=ms++[bW ms (r.headD (0,0))]
def bf (rs:List Room):List Nat:=rs.foldl gG [0,0]
def msk (rs:List Room) (k:Nat):Nat:=(bf rs).getD k 0
theorem nG:∀(rs:List Room) (a:List Nat),(rs.foldl gG a).length=a.length+rs.length
 | [],_=>rfl
 | r::rs,a=>by
  rw[List.foldl_cons,nG rs]
  simp[gG]
  omega
theorem cO (rs:List Room):(bf rs).length=rs.length+2:=by
 rw[bf,nG]
 simp
 omega
theorem nH:∀(rs:List Room) (a:List Nat),a <+: rs.foldl gG a
 | [],_=>List.prefix_rfl
 | r::rs,a=>by
  rw[List.foldl_cons]
  exact(List.prefix_append _ _).trans (nH rs _)
theorem dS {rs rs':List Room}{k:Nat}(h:rs <+: rs') (hk:k<rs.length+2):msk rs' k=msk rs k:=by
 obtain⟨m,rfl⟩:=h
 unfold msk bf
 rw[List.foldl_append]
 exact pV (nH m _) (by have:=cO rs;unfold bf at this;omega)
theorem pZ {rs:List Room}{i:Nat}{d:Int×Int}{r:Room}(h:rs[i]?=some (d::r)) (hd:d.2.toNat<i+2):msk rs (i+2)=2 ^ d.1.toNat ||| msk rs d.2.toNat:=by
 obtain⟨hi,e⟩:=List.getElem?_eq_some_iff.mp h
 have e1:rs=rs.take i++((d::r)::rs.drop (i+1)):=by
  rw[←e,List.getElem_cons_drop,List.take_append_drop]
 have p1:rs.take i <+: rs:=List.take_prefix _ _
 have p2:rs.take i++[d::r] <+: rs:=⟨rs.drop (i+1),by rw[List.append_assoc];exact e1.symm⟩
 have l1:(rs.take i).length=i:=by rw[List.length_take];omega
 rw[dS p2 (by rw[List.length_append,l1];simp),dS p1 (k:=d.2.toNat) (by rw[l1];exact hd)]
 have e2:bf (rs.take i++[d::r])=gG (bf (rs.take i)) (d::r):=by
  unfold bf
  rw[List.foldl_append]
  rfl
 unfold msk
 rw[e2]
 unfold gG
 rw[List.getD_eq_getElem?_getD,List.getElem?_append_right (by rw[cO,l1];exact Nat.le_refl _),cO,l1]
 simp only[Nat.sub_self,List.getElem?_cons_zero,Option.getD_some]
 rfl
theorem sf (rs:List Room):msk rs 1=0:=by rw[dS (rs:=[]) (List.nil_prefix) (by simp)];rfl
def MOk (rs:List Room):Prop:=∀i r,rs[i]?=some r->∀d∈r,0≤d.1∧d.1<8∧(msk rs d.2.toNat).testBit d.1.toNat=false∧2 ^ d.1.toNat ||| msk rs d.2.toNat=msk rs (i+2)
def Has (rs:List Room) (k:Nat) (S:Int->Prop):Prop:=∀i:Nat,(msk rs k).testBit i=true↔S (i:Int)
theorem Has.pre {rs rs':List Room}{k:Nat}{S:Int->Prop}(h:Has rs k S) (p:rs <+: rs') (hk:k<rs.length+2):Has rs' k S:=fun i=>by rw[dS p hk];exact h i
def eu (n:Nat) (S:Int->Prop) (os:ao):Prop:=∀o∈os,o.length=n∧(∀x∈o,0≤x∧x<8)∧o.Nodup∧∀x,x∈o↔S x
theorem eu.plain {n:Nat}{S:Int->Prop}{os:ao}(h:eu n S os):∀o∈os,o.length=n∧∀x∈o,0≤x∧x<8:=fun o ho=>⟨(h o ho).1,(h o ho).2.1⟩
theorem eu.rests {n:Nat}{S:Int->Prop}{os:ao}(h:eu (n+1) S os) (t:Int):eu n (fun x=>S x∧x≠t) (rests t os):=fun r hr=>by
 obtain⟨h1,h2,h3,h4⟩:=h _ (aZ.mp hr)
 rw[List.nodup_cons] at h3
 refine⟨by simpa using h1,fun x hx=>h2 x (List.mem_cons_of_mem _ hx),h3.2,fun x=>?_⟩
 constructor
 ·intro hx
  refine⟨(h4 x).mp (List.mem_cons_of_mem _ hx),?_⟩
  rintro rfl
  exact h3.1 hx
 ·rintro⟨hx,hn⟩
  rcases List.mem_cons.mp ((h4 x).mpr hx) with e|e
  ·exact absurd e hn
  ·exact e
def yd (f:ao->List Room->Nat×List Room) (n:Nat):Prop:=∀(S:Int->Prop) (os:ao) (rs:List Room),eu n S os->os≠[]->WF rs->MOk rs->MOk (f os rs).2∧Has (f os rs).2 (f os rs).1 S
theorem nI {f:ao->List Room->Nat×List Room}{n:Nat}{S:Int->Prop}{os:ao}(hf:pX f n) (hm:yd f n) (hos:eu (n+1) S os) :
  ∀(ts:List Int) (rs:List Room),(∀t∈ts,t∈heads os)->WF rs->MOk rs->MOk (aN f os ts rs).2∧∀d∈(aN f os ts rs).1,(0≤d.1∧d.1<8)∧S d.1∧Has (aN f os ts rs).2 d.2.toNat (fun x=>S x∧x≠d.1)
 | [],rs,_,_,m=>⟨m,fun d hd=>by cases hd⟩
 | t::ts,rs,ht,h,m=>by
  obtain⟨tb,r,hr⟩:=bF.mp (ht t List.mem_cons_self)
  have hne:rests t os≠[]:=fun e=>by
   have:=aZ.mpr hr
   rw[e] at this
   cases this
  obtain⟨w1,p1,t1⟩:=hf (rests t os) rs (hos.rests t).plain hne h
  obtain⟨m1,s1⟩:=hm _ (rests t os) rs (hos.rests t) hne h m
  have ht':∀t'∈ts,t'∈heads os:=fun t' h'=>ht t' (List.mem_cons_of_mem _ h')
  obtain⟨_,p2,_⟩:=dH hf hos.plain ts (f (rests t os) rs).2 ht' w1
  obtain⟨m2,s2⟩:=nI hf hm hos ts (f (rests t os) rs).2 ht' w1 m1
  unfold aN
  refine⟨m2,fun d hd=>?_⟩
  rcases List.mem_cons.mp hd with rfl|hd
  ·refine⟨tb,((hos _ hr).2.2.2 t).mp List.mem_cons_self,?_⟩
   simp only[Int.toNat_natCast]
   exact s1.pre p2 t1.hi
  ·exact s2 d hd
theorem AS {t:Int}{m:Nat}{S:Int->Prop}(h0:0≤t) (hS:S t) (h:∀i:Nat,m.testBit i=true↔(S (i:Int)∧(i:Int)≠t)):∀i:Nat,(2 ^ t.toNat ||| m).testBit i=true↔S (i:Int):=fun i=>by
 rw[Nat.testBit_or,Bool.or_eq_true,Nat.testBit_two_pow,decide_eq_true_iff,h i]
 constructor
 ·rintro(e|⟨e,_⟩)
  ·have:(i:Int)=t:=by omega
   rw[this];exact hS
  ·exact e
 ·intro e
  by_cases z:(i:Int)=t
  ·exact .inl (by omega)
  ·exact .inr ⟨e,z⟩
theorem zz {a b:Nat}{S:Int->Prop}(ha:∀i:Nat,a.testBit i=true↔S (i:Int)) (hb:∀i:Nat,b.testBit i=true↔S (i:Int)):a=b:=by
 refine Nat.eq_of_testBit_eq fun i=>?_
 rw[Bool.eq_iff_iff,ha,hb]
theorem p8:∀n,yd (lay n) n
 | 0=>fun S os rs hos hne _ m=>by
  refine⟨m,fun i=>?_⟩
  show(msk rs 1).testBit i=true↔_
  rw[sf]
  simp only[Nat.zero_testBit]
  constructor
  ·intro z;cases z
  ·intro z
   cases os with
   | nil=>exact absurd rfl hne
   | cons o os=>
    obtain⟨h1,_,_,h4⟩:=hos o List.mem_cons_self
    have:=(h4 _).mpr z
    rw[List.length_eq_zero_iff.mp h1] at this
    cases this
 | n+1=>fun S os rs hos hne h m=>by
  obtain⟨w1,p1,d1⟩:=dH (cg n) hos.plain (heads os) rs (fun t ht=>ht) h
  obtain⟨m1,s1⟩:=nI (cg n) (p8 n) hos (heads os) rs (fun t ht=>ht) h m
  obtain⟨w2,_,t2⟩:=cg (n+1) os rs hos.plain hne h
  have hk:lay (n+1) os rs=keep (aN (lay n) os (heads os) rs).2 (aN (lay n) os (heads os) rs).1:=rfl
  rw[hk] at w2 t2 ⊢
  generalize (aN (lay n) os (heads os) rs)=p at *
  obtain⟨ds,rs1⟩:=p
  dsimp only at *
  obtain⟨i,k1,k2,k3,k4⟩:=gF rs1 ds
  have ok:=w2 i ds k2
  have each:∀d∈ds,∀j:Nat,(2 ^ d.1.toNat ||| msk rs1 d.2.toNat).testBit j=true↔S (j:Int):=fun d hd=>AS (s1 d hd).1.1 (s1 d hd).2.1 (s1 d hd).2.2
  have pre:∀d∈ds,msk (keep rs1 ds).2 d.2.toNat=msk rs1 d.2.toNat:=fun d hd=>dS k4 (d1.tells d hd).2.hi
  have hi:Has (keep rs1 ds).2 (i+2) S:=by
   cases ds with
   | nil=>exact absurd rfl ok.ne
   | cons d r=>
    intro j
    rw[pZ k2 (by have:=ok.ahead d List.mem_cons_self;omega),pre d List.mem_cons_self]
    exact each d List.mem_cons_self j
  refine⟨?_,by rw[k1];exact hi⟩
  rcases dc rs1 ds with k|⟨_,k,k'⟩
  ·rw[k];exact m1
  ·intro j r e d hd
   have ij:i=rs1.length:=by omega
   by_cases hj:j<rs1.length
   ·have e':=e
    rw[k,List.getElem?_append_left hj] at e'
    obtain⟨a1,a2,a3,a4⟩:=m1 j r e' d hd
    have b1:=(w1 j r e').ahead d hd
    rw[dS k4 (by omega),dS k4 (by omega)]
    exact⟨a1,a2,a3,a4⟩
   ·have hl:j<(keep rs1 ds).2.length:=(List.getElem?_eq_some_iff.mp e).1
    rw[k,List.length_append] at hl
    have ej:j=i:=by simp at hl;omega
    subst ej
    rw[k2] at e
    cases e
    refine⟨(s1 d hd).1.1,(s1 d hd).1.2,?_,?_⟩
    ·rw[pre d hd]
     cases z:(msk rs1 d.2.toNat).testBit d.1.toNat with
     | false=>rfl
     | true=>
      have:=(((s1 d hd).2.2) d.1.toNat).mp z
      exact absurd (by have:=(s1 d hd).1.1;omega) this.2
    ·rw[pre d hd]
     exact zz (each d hd) hi
theorem xt {many a:Nat}(h:∀i:Nat,a.testBit i=true↔((0:Int)≤(i:Int)∧(i:Int)<many)):a=2 ^ many-1:=by
 refine Nat.eq_of_testBit_eq fun i=>?_
 rw[Bool.eq_iff_iff,h,Nat.testBit_two_pow_sub_one,decide_eq_true_iff]
 omega
end Bk
namespace Bk
open Mx
theorem dh {rs:List Room}(wf:WF rs) {k:Nat}(h2:2≤k) (hk:k<rs.length+2):∃r,rs[k-2]?=some r∧Room.Ok (k-2) r∧sem rs k=r.flatMap fun d=>(sem rs d.2.toNat).map (d.1::·):=by
 have hi:k-2<rs.length:=by omega
 have e:=List.getElem?_eq_getElem hi
 have ok:=wf _ _ e
 have:=iM e (fun d hd=>by have:=ok.ahead d hd;omega)
 rw[show k-2+2=k by omega] at this
 exact⟨_,e,ok,this⟩
theorem fQ {rs:List Room}(wf:WF rs):∀(n k:Nat),k≤n->1≤k->k<rs.length+2->sem rs k≠[]
 | 0,k,h,h1,_=>by omega
 | n+1,k,h,h1,hk=>by
  by_cases c:k=1
  ·subst c
   rw[cW]
   exact fun h=>nomatch h
  obtain⟨r,e,ok,es⟩:=dh wf (by omega) hk
  obtain⟨d,hd⟩:=List.exists_mem_of_ne_nil r ok.ne
  have ah:=ok.ahead d hd
  have:=fQ wf n d.2.toNat (by omega) (by omega) (by omega)
  obtain⟨o,ho⟩:=List.exists_mem_of_ne_nil _ this
  rw[es]
  intro hn
  have:d.1::o∈r.flatMap fun d=>(sem rs d.2.toNat).map (d.1::·):=List.mem_flatMap.mpr ⟨d,hd,List.mem_map.mpr ⟨o,ho,rfl⟩⟩
  rw[hn] at this
  cases this
def dw:Nat->List Room->Int->Prop
 | 0,_,k=>k=0∨k=1
 | n+1,rs,k=>k=0∨k=1∨(2≤k∧(k-2).toNat<rs.length∧∀d∈aA rs k,dw n rs d.2)
theorem dw.up {rs:List Room}:∀{n:Nat}{k:Int},dw n rs k->dw (n+1) rs k
 | 0,k,h=>by
  rcases h with h|h
  ·exact .inl h
  ·exact .inr (.inl h)
 | n+1,k,h=>by
  rcases h with h|h|⟨h1,h2,h3⟩
  ·exact .inl h
  ·exact .inr (.inl h)
  ·exact .inr (.inr ⟨h1,h2,fun d hd=>(h3 d hd).up⟩)
theorem dw.le {rs:List Room}{n m:Nat}{k:Int}(h:dw n rs k) (hm:n≤m):dw m rs k:=by
 induction hm with
 | refl=>exact h
 | step _ ih=>exact ih.up
theorem fR {rs:List Room}{k:Int}(h:(k-2).toNat<rs.length):rs[(k-2).toNat]?=some (aA rs k):=by
 unfold aA
 rw[List.getElem?_eq_getElem h]
 rfl
theorem eX {rs:List Room}{k:Nat}{r:Room}(h:rs[k-2]?=some r) (h2:2≤k):aA rs (k:Int)=r:=by
 unfold aA
 rw[show((k:Int)-2).toNat=k-2 by omega,h]
 rfl
theorem mJ {rs:List Room}(wf:WF rs):∀(n k:Nat),1≤k->k<rs.length+2->(∀o∈sem rs k,o.length=n)->dw n rs (k:Int)
 | 0,k,h1,hk,hl=>by
  by_cases c:k=1
  ·exact .inr (by rw[c];rfl)
  obtain⟨r,e,ok,es⟩:=dh wf (by omega) hk
  obtain⟨o,ho⟩:=List.exists_mem_of_ne_nil _ (fQ wf k k (Nat.le_refl _) h1 hk)
  have l0:=hl o ho
  rw[es] at ho
  obtain⟨d,hd,hm⟩:=List.mem_flatMap.mp ho
  obtain⟨o',_,rfl⟩:=List.mem_map.mp hm
  exact absurd l0 (by simp)
 | n+1,k,h1,hk,hl=>by
  by_cases c:k=1
  ·exact .inr (.inl (by rw[c];rfl))
  obtain⟨r,e,ok,es⟩:=dh wf (by omega) hk
  refine .inr (.inr ⟨by omega,by omega,fun d hd=>?_⟩)
  rw[eX e (by omega)] at hd
  have ah:=ok.ahead d hd
  have:=mJ wf n d.2.toNat (by omega) (by omega) fun o ho=>by
   have:=hl (d.1::o) (by rw[es];exact List.mem_flatMap.mpr ⟨d,hd,List.mem_map.mpr ⟨o,ho,rfl⟩⟩)
   simpa using this
  rw[show((d.2.toNat:Nat):Int)=d.2 by omega] at this
  exact this
end Bk
namespace L2
open PySem PySem.Spec PyProof.Rows
theorem lN (a b:Nat):Builtin.bitAnd (a:Int) (b:Int)=((a &&& b:Nat):Int):=rfl
theorem vD (a b:Nat):Builtin.bitOr (a:Int) (b:Int)=((a ||| b:Nat):Int):=by
 rw[←PyProof.Rows.bitOr_eq]
 unfold Spec.bitOr Spec.bitAnd
 have h1:decide (0≤Spec.bitNot (a:Int))=false:=by unfold Spec.bitNot;exact decide_eq_false (by omega)
 have h2:decide (0≤Spec.bitNot (b:Int))=false:=by unfold Spec.bitNot;exact decide_eq_false (by omega)
 rw[h1,h2]
 have n1:∀x:Int,Spec.bitNot (Spec.bitNot x)=x:=fun x=>by unfold Spec.bitNot;omega
 simp only[n1,Int.toNat_natCast]
theorem tR {t m:Nat}(h:m.testBit t=false):2 ^ t &&& m=0:=by
 refine Nat.eq_of_testBit_eq fun i=>?_
 rw[Nat.testBit_and,Nat.testBit_two_pow,Nat.zero_testBit]
 by_cases e:t=i
 ·subst e;rw[h];simp
 ·simp[e]
theorem gP {α:Type}{x:α}{xs:List α}:atI (x::xs) 0=some x:=aX (j:=0) rfl
theorem iP {α:Type}{x y:α}{xs:List α}:atI (x::y::xs) 1=some y:=aX (j:=1) rfl
theorem tS {α:Type}{x y z:α}{xs:List α}:atI (x::y::z::xs) 2=some z:=aX (j:=2) rfl
end L2
namespace Ord
open PySem L2 Mx
abbrev p9:Stmt:=top 24
abbrev kR:Stmt:=top 26
abbrev qc:Stmt:=top 23
abbrev jY:Stmt:=top 25
abbrev tT:Stmt:=top 22
abbrev qe:Stmt:=top 27
abbrev qf:Stmt:=top 21
abbrev oA:Stmt:=top 29
abbrev lO:Stmt:=top 28
abbrev tU:Stmt:=top 20
structure TxB (K:W.Frag) (mg:Str->Option Value) (CO:Addr):Prop where
 t:Txt K mg CO
 no:∃t,mg "NO_ROOM"=some (.int 0 t)
 en:∃t,mg "END"=some (.int 1 t)
 low:∃t,mg "LOWEST"=some (.int 2 t)
 set:mg "set"=none
def cA (K:W.Frag) (H:Hp) (x:V) (d:Int×Int):Prop:=∃p,x=.ref p∧SqT K H p [.int d.1,.int d.2]
def aV (K:W.Frag) (H:Hp) (x:V) (r:Bk.Room):Prop:=∃a xs,x=.ref a∧SqT K H a xs∧Paired (cA K H) xs r
section
variable {P:Program}{w:World}{K:W.Frag}{mg:Str->Option Value}{base:Heap}{CO:Addr}
theorem cA.same {H H':Hp}{x:V}{d:Int×Int}(s:au H H') (h:cA K H x d):cA K H' x d:=by
 obtain⟨p,e,q⟩:=h
 exact⟨p,e,s.seqT q⟩
theorem aV.same {H H':Hp}{x:V}{r:Bk.Room}(s:au H H') (h:aV K H x r):aV K H' x r:=by
 obtain⟨a,xs,e,q,z⟩:=h
 exact⟨a,xs,e,s.seqT q,ay (fun _ _ y=>y.same s) z⟩
def sg (K:W.Frag):Sp:=fun vs H Q _=>∃(x:V) (d:Int×Int),vs=[x]∧cA K H x d∧Q (.bl true) H
theorem zA:FnScope ["door"] ["door"] (ap p9):=⟨rfl,rfl,rfl,by decide +kernel,rfl,by decide +kernel,by decide +kernel⟩
theorem xu {f:Addr}{fd:FuncData}(F:Fun K "is_door" "is_door" p9 f fd) (T:TxB K mg CO) (W:Df P w K mg base CX0 1 "is_whole" ["value"] hV):FnOk P w K mg base CX0 2 f fd ["door"] (sg K):=by
 refine F.ok zA (fun vs H Q E h=>?_) (fun cdv A outer s H vs Q E hr h=>?_)
 ·obtain⟨x,d,rfl,_⟩:=h
  rfl
 obtain⟨x,⟨t,k⟩,rfl,⟨p,rfl,q⟩,z⟩:=h
 refine⟨_,am (aH (gU (aB bQ rfl T.t.isi cY (ac (pv 0) (ac (eT (v:=.ty "tuple") rfl T.t.tuple eV rfl) ae)))
  (gU (gf cb (aB aR rfl T.t.len cp (ac (pv 0) ae)) ak (aG _))
  (gU (aS W hr rfl (bg (E:=fun _ _ _ _=>False)) (ac (aU (show IxR _ (bZ K) from bv) (pv 0) ak (fun _ _=>rfl)) ae))
  (lg (aS W hr rfl (bg (E:=fun _ _ _ _=>False)) (ac (aU (show IxR _ (bZ K) from bv) (pv 0) ak (fun _ _=>rfl)) ae))))))),?_⟩
 refine⟨_,rfl,_,_,_,_,_,rfl,rfl,.tup q,ly,_,rfl,aJ ?_⟩
 refine⟨_,rfl,p,_,rfl,.inr q,rfl,_,rfl,aJ ?_⟩
 refine⟨_,rfl,p,_,0,.int t,rfl,rfl,q,gP,t,rfl,_,rfl,aJ ?_⟩
 exact⟨_,rfl,p,_,1,.int k,rfl,rfl,q,iP,k,rfl,z⟩
theorem jy:FnScope ["door","things","thing","later"] ["door","things"] (ap kR):=⟨rfl,rfl,rfl,by decide +kernel,rfl,by decide +kernel,by decide +kernel⟩
structure BookA (K:W.Frag) (H:Hp) (x:V) (many:Int) (rs:List Bk.Room) (first:Int):Prop where
 ex:∃b l xs,x=.ref b∧SqT K H b [.int many,.ref l,.int first]∧SqL K H l xs∧Paired (aV K H) xs rs
theorem zB:FnScope ["book"] ["book"] (ap qf):=⟨rfl,rfl,rfl,by decide +kernel,rfl,by decide +kernel,by decide +kernel⟩
end
end Ord
namespace L2
open PySem PySem.Spec PyProof.Rows
section
variable {X:Cx}{scope:Scope}{x:Str}{elt iter:Expr}{ifs:List Expr}{px pos:Pos}{wi:TI}{tt:TT}{te:TE}
theorem si {i0:Nat}{y:Str}{py spos:Pos}(hN:X.N.Nodup) (hi0:X.N[i0]?=some y) (hx:Loc X.env.scope y) (hc:X.calm=true) (S:CScope X.env.scope X.N scope x) (hi:PI X (.Name x px) iter wi)
  (ht:∀(cl:List (Str×Addr)) (C:Addr) (s₂:Shared) (H₂:Hp) (fp:List Addr) (aa:List (Addr×Obj)),PTs (cxC X scope cl x C s₂ H₂ fp aa) ifs tt)
  (he:∀(cl:List (Str×Addr)) (C:Addr) (s₂:Shared) (H₂:Hp) (fp:List Addr) (aa:List (Addr×Obj)),PE (cxC X scope cl x C s₂ H₂ fp aa) elt te)
  (hsw:swapsWith (.ListComp elt [⟨.Name x px,iter,ifs,0⟩] scope pos) (some (.Name y py)) spos.line X.env=pure true) (hs:∀v,foldedSetIterable iter X.env v=pure v:=by intro _;rfl)
  (hf:X.fn y=true∨X.env.scope.names.lookup y=some .local :=by first|exact .inl rfl|exact .inr rfl|assumption) :
  PS X (.Assign [.Name y py] (.ListComp elt [⟨.Name x px,iter,ifs,0⟩] scope pos) spos) (sL (tu wi tt te) (om i0)):=by
 intro aa s σ H D0 I h
 obtain⟨cl,hcl0,hcl1,hcl2⟩:=iA (scope:=scope) (env:=X.env) (fun y hy hf=>I.ok.has y.1 (S.free y hy hf))
 rw[exec_Assign_Name_used _ _ _ _ hsw]
 refine wpAny_bind (wpAny_standAt (wpAny_bind ?_))
 show wpAny _ X.A (do let _ ←comprehension (.ListComp elt [⟨.Name x px,iter,ifs,0⟩] scope pos) scope X.env _ (newList []) false (eval iter X.env) (some (assign (.Name y py) X.env))) _ _ s
 refine wpAny_bind (wpAny_mono (wpAny_comprehension_free (use:=some (assign (.Name y py) X.env)) (E:=X.xe) (Q:=fun _ s'=>SP X aa D0 .next s') rfl hs hcl0 S.kind S.names
  (thn (hi aa s σ H _ I h) fun xv s1 h1=>thn h1 fun itv s2 h2=>?_)) (fun _ s' hq=>wpAny_pure (wpAny_pure hq)) fun _ _ e=>e)
 obtain⟨it,fp,tn,J,H2,e,I2,T,st2,f2,W,⟨m0,w0⟩,turn⟩:=h2
 subst e
 refine wpAny_newObj_type (wpAny_newFunctionEnv S.cell (by intro y hy;cases hy) (fun h₁ hns hsb=>?_) S.kind)
 dsimp only at hns hsb ⊢
 generalize hP:s2.heap.push { cls:=.type "list",dict:=none,data:=.seq ([]:List Value).toArray }=P2 at hns hsb ⊢
 have hC:P2.objs.size=s2.heap.objs.size+1:=by rw[←hP,Heap.size_push]
 have hDC:s2.heap.objs.size≠P2.objs.size:=by rw[hC];exact Nat.ne_of_lt (Nat.lt_succ_self _)
 have hCle:s2.heap.objs.size≤P2.objs.size:=by rw[hC];exact Nat.le_succ _
 have old:∀b o,s2.heap.get? b=some o->h₁.get? b=some o:=fun b o e=>by
  have hb:=Heap.lt_size e
  exact hsb.extBut b o (by rw[hC];exact Nat.ne_of_lt (Nat.lt_succ_of_lt hb)) (Heap.get?_push_of_some _ (hP▸Heap.get?_push_of_some _ e))
 have hd:h₁.get? s2.heap.objs.size=some (bp [] 0):=hsb.extBut _ _ hDC (Heap.get?_push_of_some _ (hP▸Heap.get?_push_size _ rfl))
 have fo:∀b∈fp,∃o,s2.heap.get? b=some o:=fun b hb=>by
  obtain⟨o,e,_⟩:=T.obj _ _ st2 b hb
  exact⟨o,e⟩
 have neD:∀b∈fp,b≠s2.heap.objs.size:=fun b hb=>by
  obtain⟨o,e⟩:=fo b hb
  exact Nat.ne_of_lt (Heap.lt_size e)
 have JY:Inv (cxC X scope cl x P2.objs.size s2 H2 fp aa) [(s2.heap.objs.size,bp [] 0)] (none::σ) H2 { s2 with heap:=h₁,toks:=s2.toks+([]:List (Str×Value)).length }:=
  jj I2 S f2 fo hcl1 hcl2 (Nat.le_refl _) hCle hDC ⟨_,hns⟩ hd old
 have stat:∀{H':Hp}{its:List Value}{n:Nat},(∀b∈fp,H' b=none)->∀b∈fp,fh (cxC X scope cl x P2.objs.size s2 H2 fp aa) [(s2.heap.objs.size,bp its n)] H' b:=fun {H' its n} hn b hb=>by
  obtain⟨_,g1,g2,g3,g4,g5⟩:=f2 b hb
  obtain⟨o,e⟩:=fo b hb
  refine⟨hn b hb,?_,fun z=>?_,.inl hb,fun y c q=>g4 y c (hcl1 y c q),fun p hp=>?_⟩
  ·show b≠P2.objs.size
   exact Nat.ne_of_lt (Nat.lt_of_lt_of_le (Heap.lt_size e) hCle)
  ·rcases List.mem_cons.mp (I2.stkSub b z) with r|r
   ·exact g1 r
   ·exact g2 r
  ·rcases List.mem_append.mp hp with z|z
   ·exact g5 p z
   ·rw[List.mem_singleton.mp z];exact fun q=>neD b hb q.symm
 have nodup:(cxC X scope cl x P2.objs.size s2 H2 fp aa).N.Nodup:=List.nodup_cons.mpr ⟨S.fresh,hN⟩
 have loc:Loc (cxC X scope cl x P2.objs.size s2 H2 fp aa).env.scope x:=.inl (lookup_relabel_local S.var)
 have loop:∀s4:Shared,s4={ s2 with heap:=h₁,toks:=s2.toks+([]:List (Str×Value)).length }->
   codeAny (model X.prog X.w) X.A (.compLoop (.ListComp elt [⟨.Name x px,iter,ifs,0⟩] scope pos) 0 (.ref it) (.ref s2.heap.objs.size) (compEnvC scope cl P2.objs.size X.env))
    (compPost (model X.prog X.w) X.A X.xe (some (assign (.Name y py) X.env)) (fun _ s'=>SP X aa D0 .next s') (.ref s2.heap.objs.size) P2.objs.size) s4:=by
  rintro s4 rfl
  refine codeAny_loop rfl (fun n s'=>∃i ys its c H' v0,Inv (cxC X scope cl x P2.objs.size s2 H2 fp aa) [(s2.heap.objs.size,bp its c)] (v0::σ) H' s'∧tn i s'.heap∧(∀b∈fp,H' b=none)∧az ys its∧W i n ys H') ?_ m0
   ⟨0,[],[],0,H2,none,JY,T.keep _ _ _ st2 (fun b _ o e=>old b o e),fun b hb=>(f2 b hb).1,.nil,w0⟩
  rintro n s3 ⟨i,ys,its,c,H3,v0,I3,st3,fr3,rv,w3⟩
  show wpAny _ _ ((compTurn (.ListComp elt [⟨.Name x px,iter,ifs,0⟩] scope pos) 0 (.ref it) (.ref s2.heap.objs.size) (compEnvC scope cl P2.objs.size X.env)).onRaise (fun z=>do noteFrame z (compEnvC scope cl P2.objs.size X.env);theTreesLotGoes z)) _ _ s3
  refine wpAny_noted ?_
  rw[compTurn_list]
  rcases turn i n ys H3 w3 with⟨stop,hz,qn⟩|⟨go,hz,NN,hNN,step⟩
  ·refine wpAny_bind (wpAny_standAt (wpAny_bind (thn (T.done (cxC X scope cl x P2.objs.size s2 H2 fp aa) rfl rfl rfl hc i _ s3 _ H3 _ I3 (stat fr3) st3 stop) fun r s5 ⟨hr,I5⟩=>?_)))
   subst hr
   refine wpAny_pure ?_
   obtain⟨mC,hmC,_⟩:=I5.loc
   obtain⟨I6,nD⟩:=kJ I2 f2 (Nat.le_refl _) hCle I5 (Heap.SameBut.refl _ _) rv hz
   have fC:H3 P2.objs.size=none:=I5.free
   have q:=qn _ nD
   have big:∀b o,s2.heap.get? b=some o->b≠P2.objs.size:=fun b o e=>Nat.ne_of_lt (Nat.lt_of_lt_of_le (Heap.lt_size e) hCle)
   have bigC:∀z c,X.env.cells.lookup z=some c->c≠P2.objs.size:=fun z c e=>by
    obtain⟨v,q⟩:=I2.cell z c e
    exact Nat.ne_of_lt (Nat.lt_of_lt_of_le q.lt hCle)
   have bigL:X.env.locals≠P2.objs.size:=Nat.ne_of_lt (Nat.lt_of_lt_of_le I2.lt hCle)
   refine wpAny_assign_Name (je (v:=.ref s2.heap.objs.size) I6 hN hi0 hx rfl (fun s7 I7 ⟨a,sb,ha⟩=>?_) hf)
   have neC:P2.objs.size≠a:=by
    rcases ha with ha|ha
    ·rw[ha];exact Ne.symm bigL
    ·exact Ne.symm (bigC _ _ ha)
   exact⟨mC,hmC.sameBut sb neC,fun h' hs'=>⟨_,_,I7.turned (t':=s7.toks) (it:=P2.objs.size) (fun b o hb e=>(hs'.2 b hb).trans e) (by rw[aq (Ne.symm hDC)];exact fC) (Ne.symm bigL) (.inr (Nat.le_trans I2.sz hCle)) bigC (fun p hp=>big _ _ (I2.pin p hp).1),q⟩⟩
  ·refine wpAny_bind (wpAny_standAt (wpAny_bind (thn (T.item (cxC X scope cl x P2.objs.size s2 H2 fp aa) rfl rfl rfl hc i _ s3 _ H3 _ I3 (stat fr3) st3 go) fun r s5 ⟨u,hr,h5⟩=>?_)))
   subst hr
   refine wpAny_bind (thn h5 fun _ s6 ⟨xv,H6,I6,r6,y6,st6,fr6⟩=>?_)
   have I6':=I6.pinned (stat fr6) (T.obj _ _ st6)
   refine wpAny_bind (wpAny_assign_Name (fg (i:=0) I6' nodup rfl loc r6 (fun s7 I7=>?_) (.inr (lookup_relabel_local S.var))))
   have q7:=step xv H6 y6
   refine wpAny_bind (dL (thn (ht cl P2.objs.size s2 H2 fp aa _ s7 _ H6 _ I7 q7) fun ok s8 ⟨H8,I8,q8⟩=>?_))
   have back:∀{H9:Hp}{s9:Shared},Inv (cxC X scope cl x P2.objs.size s2 H2 fp aa) ([(s2.heap.objs.size,bp its c)]++gm fp s6.heap) (some xv::σ) H9 s9->tn (i+1) s9.heap∧∀b∈fp,H9 b=none:=fun {H9 s9} I9=>by
    refine⟨T.keep _ _ _ st6 fun b hb o e=>(I9.pin (b,o) (List.mem_append_right _ (List.mem_append_right _ (cK hb e)))).1,fun b hb=>?_⟩
    obtain⟨o,e,d⟩:=T.obj _ _ st6 b hb
    exact(I9.pin (b,o) (List.mem_append_right _ (List.mem_append_right _ (cK hb e)))).2.1
   cases ok with
   | false=>
    obtain⟨m',hm,w8⟩:=hNN ys H8 q8
    obtain⟨t8,fr8⟩:=back I8
    exact wpAny_pure ⟨rfl,m',hm,i+1,ys,its,c,H8,_,I8.unpinned,t8,fr8,rv,w8⟩
   | true=>
    refine wpAny_bind (wpAny_bind (dL (thn (he cl P2.objs.size s2 H2 fp aa _ s8 _ H8 _ I8 q8) fun yv s9 ⟨y,H9,I9,r9,q9⟩=>?_)))
    obtain⟨m',hm,w9⟩:=hNN _ _ q9
    obtain⟨t9,fr9⟩:=back I9
    have I9':=I9.unpinned
    obtain⟨eD,nD,neL,nf,_⟩:=I9'.pin (s2.heap.objs.size,bp its c) (List.mem_append_right _ List.mem_cons_self)
    refine wpAny_bind (wpAny_list_append_plain (items:=its.toArray) ⟨c,eD⟩ (fun h10 hp10 hs10=>?_) (by rw[List.size_toArray,←rv.length];exact Nat.le_of_lt hz))
    obtain⟨c',e10⟩:=hp10
    have e10':h10.get? s2.heap.objs.size=some (bp (its++[yv]) c'):=by rw[e10];simp
    have I10:Inv (cxC X scope cl x P2.objs.size s2 H2 fp aa) [] (some xv::σ) H9 { s9 with heap:=h10 }:=by
     have I9e:Inv (cxC X scope cl x P2.objs.size s2 H2 fp aa) [] (some xv::σ) H9 s9:=I9'.pins_of fun p hp=>absurd hp (by simp)
     refine I9e.turned (t':=s9.toks) (it:=s2.heap.objs.size) (fun b o hb q=>(hs10.2 b hb).trans q) nD neL (.inr (Nat.le_refl _)) (fun y cc q=>?_) fun p hp=>?_
     ·obtain⟨v,z⟩:=I2.cell y cc (hcl1 y cc q)
      exact Nat.ne_of_lt z.lt
     ·have hp':p∈X.pn++aa:=by
       have z:p∈(X.pn++aa)++[]:=hp
       simpa using z
      exact Nat.ne_of_lt (Heap.lt_size (I2.pin p hp').1)
    have I11:Inv (cxC X scope cl x P2.objs.size s2 H2 fp aa) [(s2.heap.objs.size,bp (its++[yv]) c')] (some xv::σ) H9 { s9 with heap:=h10 }:=
     I10.pins_of fun p hp=>by rw[List.mem_singleton.mp hp];exact⟨e10',nD,neL,nf,fun v q=>nomatch q⟩
    refine wpAny_pure (wpAny_pure ⟨rfl,m',hm,i+1,ys++[y],its++[yv],c',H9,_,I11,?_,fr9,rv.append (.cons r9 .nil),w9⟩)
    exact T.keep _ _ _ t9 fun b hb o q=>(hs10.2 b (neD b hb)).trans q
 exact codeAny_compStart_list (loop _ rfl) (T.self X.A 0 _ _ _ (T.keep _ _ _ st2 (fun b _ o e=>old b o e)) (loop _ rfl))
end
end L2
namespace Ord
open PySem L2 Mx
section
variable {P:Program}{w:World}{K:W.Frag}{mg:Str->Option Value}{base:Heap}{CO:Addr}
def eJ (ms:List Nat):List V:=ms.map fun m:Nat=>V.int m
theorem qh {ms:List Nat}{k:Nat}(h:k<ms.length):atI (eJ ms) (k:Int)=some (.int ((ms.getD k 0:Nat):Int)):=aX (by
 unfold eJ
 rw[List.getElem?_map,List.getElem?_eq_getElem h,List.getD_eq_getElem?_getD,List.getElem?_eq_getElem h]
 rfl)
theorem zC:FnScope ["many","things","first"] ["many","things","first"] (ap qe):=⟨rfl,rfl,rfl,by decide +kernel,rfl,by decide +kernel,by decide +kernel⟩
theorem jZ:FnScope ["many","room","number","last","door"] ["many","room","number"] (ap qc):=⟨rfl,rfl,rfl,by decide +kernel,rfl,by decide +kernel,by decide +kernel⟩
theorem GT {ns:List Int}:eJ (ns.map Int.toNat)=(ns.map Int.toNat).map fun m:Nat=>V.int m:=rfl
theorem qi:FnScope ["room","things","found"] ["room","things"] (ap jY):=⟨rfl,rfl,rfl,by decide +kernel,rfl,by decide +kernel,by decide +kernel⟩
end
end Ord
namespace Bk
open Mx
theorem xw {r:Room}(rise:(r.map (·.1)).Pairwise (· < ·)) (h:∀d∈r,0≤d.1∧d.1<8):r.length≤8:=by
 have nd:(r.map (·.1)).Nodup:=rise.imp fun h e=>absurd h (by rw[e];omega)
 have:=L2.bP (r.map (·.1)) (aE 8) nd fun x hx=>by
  obtain⟨d,hd,rfl⟩:=List.mem_map.mp hx
  exact bD.mpr (h d hd)
 rw[List.length_map,aQ] at this
 exact this
theorem tV {rs:List Room}(m:MOk rs) (w:WF rs) {i:Nat}{r:Room}(h:rs[i]?=some r) :
  (∀d∈r,0≤d.1∧d.1<8∧0≤d.2∧d.2<((bf (rs.take i)).length:Nat)∧((bf (rs.take i)).getD d.2.toNat 0).testBit d.1.toNat=false∧bW (bf (rs.take i)) d=msk rs (i+2))∧bf (rs.take (i+1))=bf (rs.take i)++[msk rs (i+2)]:=by
 have il:=(List.getElem?_eq_some_iff.mp h).1
 have tl:(rs.take i).length=i:=by rw[List.length_take];omega
 have ml:=cO (rs.take i)
 have ok:=w i r h
 have each:∀d∈r,0≤d.1∧d.1<8∧0≤d.2∧d.2<((bf (rs.take i)).length:Nat)∧((bf (rs.take i)).getD d.2.toNat 0).testBit d.1.toNat=false∧bW (bf (rs.take i)) d=msk rs (i+2):=fun d hd=>by
  obtain⟨a1,a2,a3,a4⟩:=m i r h d hd
  obtain⟨b1,b2⟩:=ok.ahead d hd
  have e:(bf (rs.take i)).getD d.2.toNat 0=msk rs d.2.toNat:=(dS (List.take_prefix i rs) (by rw[tl];omega)).symm
  refine⟨a1,a2,by omega,by rw[ml,tl];omega,by rw[e];exact a3,?_⟩
  unfold bW
  rw[e]
  exact a4
 refine⟨each,?_⟩
 rw[List.take_add_one,h]
 unfold bf
 rw[Option.toList_some,List.foldl_append]
 show gG (bf (rs.take i)) r=_
 unfold gG
 cases r with
 | nil=>exact absurd rfl ok.ne
 | cons d r=>rw[List.headD_cons,(each d List.mem_cons_self).2.2.2.2.2];rfl
end Bk
namespace L2
theorem au.seqL {K:PySem.W.Frag}{H H':Hp}{a:PySem.Addr}{xs:List V}(e:au H H') (h:SqL K H a xs):SqL K H' a xs:=by
 rcases h with(h|⟨o,h⟩)|h
 ·exact .inl (.inl (e _ _ h))
 ·exact .inl (.inr ⟨o,e _ _ h⟩)
 ·exact .inr h
end L2
namespace Ord
open PySem L2 Mx
section
variable {P:Program}{w:World}{K:W.Frag}{mg:Str->Option Value}{base:Heap}{CO:Addr}
structure Whole (many:Int) (rs:List Bk.Room):Prop where
 wf:Bk.WF rs
 mask:Bk.MOk rs
 less:∀r∈rs,∀d∈r,d.1<many
 few:rs.length≤1000
theorem qj:FnScope ["many","rooms","things","room"] ["many","rooms"] (ap tT):=⟨rfl,rfl,rfl,by decide +kernel,rfl,by decide +kernel,by decide +kernel⟩
end
end Ord
namespace Bk
open Mx
structure Wd (rs:List Room) (ws:List Int):Prop where
 nd:ws.Nodup
 inn:∀x∈ws,0≤x∧x<(rs.length:Int)+2
 z:(0:Int)∈ws
 o:(1:Int)∈ws
theorem Wd.len {rs:List Room}{ws:List Int}(w:Wd rs ws):ws.length≤rs.length+2:=by
 have:=L2.bP ws (aE (rs.length+2)) w.nd fun x hx=>bD.mpr (by have:=w.inn x hx;omega)
 rw[aQ] at this
 exact this
theorem sj {rs:List Room}(wf:WF rs):∀(n:Nat) (k:Int) (ws:List Int),dw n rs k->Wd rs ws->Wd rs (walk n rs k ws)∧(∀x∈ws,x∈walk n rs k ws)∧∀x∈walk n rs k ws,x∈ws∨x≤k
 | 0,k,ws,f,w=>⟨w,fun _ h=>h,fun x h=>.inl h⟩
 | n+1,k,ws,f,w=>by
  unfold walk
  by_cases c:k∈ws
  ·rw[if_pos c]
   exact⟨w,fun _ h=>h,fun x h=>.inl h⟩
  rw[if_neg c]
  obtain⟨k2,kl,fd⟩:2≤k∧(k-2).toNat<rs.length∧∀d∈aA rs k,dw n rs d.2:=by
   rcases f with f|f|f
   ·exact absurd (f▸w.z) c
   ·exact absurd (f▸w.o) c
   ·exact f
  have ok:=wf _ _ (fR kl)
  have fold:∀(ds:Room) (ws:List Int),(∀d∈ds,dw n rs d.2∧d.2<k)->Wd rs ws->Wd rs (ds.foldl (fun w d=>walk n rs d.2 w) ws)∧(∀x∈ws,x∈ds.foldl (fun w d=>walk n rs d.2 w) ws)∧∀x∈ds.foldl (fun w d=>walk n rs d.2 w) ws,x∈ws∨x<k:=by
   intro ds
   induction ds with
   | nil=>intro ws _ w;exact⟨w,fun _ h=>h,fun x h=>.inl h⟩
   | cons d ds ih=>
    intro ws hd w
    obtain⟨a1,a2,a3⟩:=sj wf n d.2 ws (hd d List.mem_cons_self).1 w
    obtain⟨b1,b2,b3⟩:=ih (walk n rs d.2 ws) (fun d' h'=>hd d' (List.mem_cons_of_mem _ h')) a1
    refine⟨b1,fun x hx=>b2 x (a2 x hx),fun x hx=>?_⟩
    rcases b3 x hx with h|h
    ·rcases a3 x h with h|h
     ·exact .inl h
     ·exact .inr (Int.lt_of_le_of_lt h (hd d List.mem_cons_self).2)
    ·exact .inr h
  obtain⟨a1,a2,a3⟩:=fold (aA rs k) ws (fun d hd=>⟨fd d hd,by have:=(ok.ahead d hd).2;omega⟩) w
  have kn:k∉(aA rs k).foldl (fun w d=>walk n rs d.2 w) ws:=fun h=>by
   rcases a3 k h with h|h
   ·exact c h
   ·omega
  refine⟨⟨?_,fun x hx=>?_,List.mem_append_left _ a1.z,List.mem_append_left _ a1.o⟩,fun x hx=>List.mem_append_left _ (a2 x hx),fun x hx=>?_⟩
  ·rw[List.nodup_append]
   exact⟨a1.nd,by simp,fun x hx y hy=>by rw[List.mem_singleton.mp hy];rintro rfl;exact kn hx⟩
  ·rcases List.mem_append.mp hx with h|h
   ·exact a1.inn x h
   ·rw[List.mem_singleton.mp h];omega
  ·rcases List.mem_append.mp hx with h|h
   ·rcases a3 x h with h|h
    ·exact .inl h
    ·exact .inr (by omega)
   ·rw[List.mem_singleton.mp h];exact .inr (Int.le_refl _)
theorem jz {rs:List Room}(wf:WF rs) {n:Nat}{k:Int}{ws:List Int}(w:Wd rs ws) (kl:(k-2).toNat<rs.length) (k2:2≤k) (c:k∉ws) (fd:∀d∈aA rs k,dw n rs d.2) :
  ∀i,i≤(aA rs k).length->Wd rs (((aA rs k).take i).foldl (fun w d=>walk n rs d.2 w) ws)∧k∉((aA rs k).take i).foldl (fun w d=>walk n rs d.2 w) ws
 | 0,_=>⟨w,c⟩
 | i+1,h=>by
  obtain⟨a1,a2⟩:=jz wf w kl k2 c fd i (by omega)
  have hi:i<(aA rs k).length:=by omega
  have e:(aA rs k).take (i+1)=(aA rs k).take i++[(aA rs k)[i]]:=by rw[List.take_add_one,List.getElem?_eq_getElem hi];rfl
  rw[e,List.foldl_append]
  show Wd rs (walk n rs (aA rs k)[i].2 _)∧k∉walk n rs (aA rs k)[i].2 _
  have mem:(aA rs k)[i]∈aA rs k:=List.getElem_mem hi
  have ok:=(wf _ _ (fR kl)).ahead _ mem
  obtain⟨b1,b2,b3⟩:=sj wf n _ _ (fd _ mem) a1
  refine⟨b1,fun hk=>?_⟩
  rcases b3 k hk with z|z
  ·exact a2 z
  ·omega
end Bk
namespace L2
open PySem
def bq (d:Addr) (H H':Hp):Prop:=∀b o,b≠d->H b=some o->H' b=some o
section
variable {K:W.Frag}{H H' H'':Hp}{a d:Addr}{xs:List V}{kvs:List (Key×V)}
theorem bq.refl (d:Addr) (H:Hp):bq d H H:=fun _ _ _ e=>e
theorem bq.trans (e:bq d H H') (e':bq d H' H''):bq d H H'':=fun b o n h=>e' b o n (e b o n h)
theorem bq.upd (o:HO):bq d H (L2.upd H d o):=fun b u n h=>by rw[aq n];exact h
theorem bq.seqT (e:bq d H H') (hd:H d=some (.dK kvs)) (h:SqT K H a xs):SqT K H' a xs:=by
 rcases h with(h|⟨o,h⟩)|h
 ·exact .inl (.inl (e _ _ (by rintro rfl;rw[hd] at h;cases h) h))
 ·exact .inl (.inr ⟨o,e _ _ (by rintro rfl;rw[hd] at h;cases h) h⟩)
 ·exact .inr h
theorem bq.seqL (e:bq d H H') (hd:H d=some (.dK kvs)) (h:SqL K H a xs):SqL K H' a xs:=by
 rcases h with(h|⟨o,h⟩)|h
 ·exact .inl (.inl (e _ _ (by rintro rfl;rw[hd] at h;cases h) h))
 ·exact .inl (.inr ⟨o,e _ _ (by rintro rfl;rw[hd] at h;cases h) h⟩)
 ·exact .inr h
end
theorem bG {α:Type}{l:List α}{i:Nat}{x:α}(h:l[i]?=some x):l.take (i+1)=l.take i++[x]:=by rw[List.take_add_one,h];rfl
def wlk (ws:List Int):List (Key×V):=ws.map fun k=>(Sum.inl k,V.bl true)
theorem mK (ws:List Int) (k:Int):(cf (wlk ws) (.inl k)).isSome=decide (k∈ws):=by
 induction ws with
 | nil=>rfl
 | cons x ws ih=>
  by_cases h:x=k
  ·subst h
   show(cf ((Sum.inl x,V.bl true)::wlk ws) (.inl x)).isSome=_
   rw[dD rfl]
   simp
  ·show(cf ((Sum.inl x,V.bl true)::wlk ws) (.inl k)).isSome=_
   rw[dE (by intro e;exact h (Sum.inl.inj e)),ih]
   simp[Ne.symm h]
theorem zD {ws:List Int}{k:Int}(h:k∉ws):cG (wlk ws) (.inl k) (.bl true)=wlk (ws++[k]):=by
 unfold cG
 rw[iH,mK,decide_eq_false h,if_neg (by decide)]
 unfold wlk
 rw[List.map_append]
 rfl
end L2
namespace Ord
open PySem L2 Mx
section
variable {P:Program}{w:World}{K:W.Frag}{mg:Str->Option Value}{base:Heap}{CO:Addr}
theorem aV.sameB {H H':Hp}{d:Addr}{kvs:List (Key×V)}{x:V}{r:Bk.Room}(s:bq d H H') (hd:H d=some (.dK kvs)) (h:aV K H x r):aV K H' x r:=by
 obtain⟨a,xs,e,q,z⟩:=h
 exact⟨a,xs,e,s.seqT hd q,ay (fun _ _ ⟨p,e,q⟩=>⟨p,e,s.seqT hd q⟩) z⟩
def lP (K:W.Frag) (n:Nat):Sp:=fun vs H Q _=>∃(l wd:Addr) (xs:List V) (rs:List Bk.Room) (k:Int) (ws:List Int),vs=[.ref l,.int k,.ref wd]∧SqL K H l xs∧Paired (aV K H) xs rs∧Bk.WF rs∧rs.length≤1000∧
 H wd=some (.dK (wlk ws))∧Bk.Wd rs ws∧Bk.dw n rs k∧∀H',bq wd H H'->H' wd=some (.dK (wlk (Bk.walk n rs k ws)))->Q .non H'
theorem vE:FnScope ["rooms","number","walked","door"] ["rooms","number","walked"] (ap oA):=⟨rfl,rfl,rfl,by decide +kernel,rfl,by decide +kernel,by decide +kernel⟩
theorem qk {f:Addr}{fd:FuncData}(F:Fun K "walk_rooms" "walk_rooms" oA f fd) (T:TxB K mg CO) (n:Nat) (WW:∀m,n=m+1->Df P w K mg base CX0 (m+1) "walk_rooms" ["rooms","number","walked"] (lP K m)) :
  FnOk P w K mg base CX0 (n+1) f fd ["rooms","number","walked"] (lP K n):=by
 refine F.ok vE (fun vs H Q E h=>?_) (fun cdv A outer s H vs Q E hr h=>?_)
 ·obtain⟨l,wd,xs,rs,k,ws,rfl,_⟩:=h
  rfl
 obtain⟨l,wd,xs,rs,k,ws,rfl,ql,pr,wf,few,hwd,W,fit,z⟩:=h
 obtain⟨t2,m2⟩:=T.low
 by_cases c:k∈ws
 ·refine⟨_,ai (aK (uB (u6 (oq hr) (pv 1) (pv 2))) (am mj) ax) (ai aL (am aL)),?_⟩
  refine⟨_,rfl,_,rfl,wd,_,rfl,iI.k (k:=.inl k) hwd,_,rfl,?_⟩
  rw[mK,decide_eq_true c]
  refine aJ ?_
  rw[Bk.fD c] at z
  exact z H (bq.refl _ _) hwd
 cases n with
 | zero=>
  exfalso
  rcases fit with e|e
  ·exact c (e▸W.z)
  ·exact c (e▸W.o)
 | succ n=>
  obtain⟨k2,kl,fd'⟩:2≤k∧(k-2).toNat<rs.length∧∀d∈Bk.aA rs k,Bk.dw n rs d.2:=by
   rcases fit with e|e|e
   ·exact absurd (e▸W.z) c
   ·exact absurd (e▸W.o) c
   ·exact e
  have D:=WW n rfl
  refine⟨_,ai (aK (uB (u6 (oq hr) (pv 1) (pv 2))) (am mj) ax)
   (ai (PS.nox (dz PassesOwn.never rfl (gW (aU (show IxR _ (dA K) from bI) (pv 0) (aw jf (pv 1) (bH (v:=.int 2) rfl m2 ⟨t2,rfl⟩)) (fun _ _=>rfl))) (bA (i:=3) vE.nd rfl (Or.inl rfl))
    (am (br (aS D hr rfl (bg (E:=fun _ _ _ _=>False)) (ac (pv 0) (ac (aU (show IxR _ (bZ K) from bv) (pv 3) ak (fun _ _=>rfl)) (ac (pv 2) ae))))))))
   (am (y8 (oq hr) (pv 2) (pv 1) ix rfl))),?_⟩
  refine⟨_,rfl,_,rfl,wd,_,rfl,iI.k (k:=.inl k) hwd,_,rfl,?_⟩
  rw[mK,decide_eq_false c]
  refine aM ?_
  obtain⟨x,hx,ra⟩:=dN pr (Bk.fR kl)
  obtain⟨a,ys,rfl,qa,pd⟩:=id ra
  have ik:atI xs (k-2)=some (.ref a):=by
   have:=aX hx
   rw[show(((k-2).toNat:Nat):Int)=k-2 by omega] at this
   exact this
  refine⟨_,rfl,_,rfl,k,2,rfl,rfl,l,xs,k-2,.ref a,rfl,rfl,ql,ik,a,rfl,⟨_,qa⟩,
   jO (K:=K) (a:=a) (xs:=ys) (fun i σ H2=>∃v3,σ=[some (.ref l),some (.int k),some (.ref wd),v3]∧bq wd H H2∧H2 wd=some (.dK (wlk (((Bk.aA rs k).take i).foldl (fun w d=>Bk.walk n rs d.2 w) ws)))) ⟨none,rfl,bq.refl _ _,hwd⟩ ?_ ?_ ?_⟩
  ·rintro i σ H2 _ ⟨v3,rfl,s2,_⟩
   exact s2.seqT hwd qa
  ·rintro i y σ H2 hy ⟨v3,rfl,s2,h2⟩
   obtain⟨⟨dt,dk⟩,hd,p,rfl,qd⟩:=cw pd hy
   obtain⟨il,ie⟩:=List.getElem?_eq_some_iff.mp hd
   obtain⟨wp,kp⟩:=Bk.jz wf W kl k2 c fd' i (by omega)
   refine⟨_,rfl,_,rfl,p,_,1,.int dk,rfl,rfl,s2.seqT hwd qd,iP,_,rfl,l,wd,xs,rs,dk,_,rfl,s2.seqL hwd ql,ay (fun _ _ z=>z.sameB s2 hwd) pr,wf,few,h2,wp,fd' _ (List.mem_of_getElem? hd),fun H3 s3 h3=>?_⟩
   refine⟨_,rfl,s2.trans s3,?_⟩
   rw[bG hd,List.foldl_append]
   exact h3
  ·rintro σ H2 ⟨v3,rfl,s2,h2⟩
   have hl:=pd.length
   obtain⟨wp,kp⟩:=Bk.jz wf W kl k2 c fd' (Bk.aA rs k).length (Nat.le_refl _)
   rw[hl] at h2
   rw[List.take_length] at h2 wp kp
   refine⟨_,rfl,_,rfl,wd,_,rfl,ph.k (k:=.inl k) h2 ?_,?_⟩
   ·unfold wlk
    rw[List.length_map,sizeLine_eq]
    have:=wp.len
    omega
   ·refine z _ (s2.trans (bq.upd _)) ?_
    have e:Bk.walk (n+1) rs k ws=(Bk.aA rs k).foldl (fun w d=>Bk.walk n rs d.2 w) ws++[k]:=by rw[Bk.walk];exact if_neg c
    rw[ag,zD kp,e]
theorem sr {f:Addr}{fd:FuncData}(F:Fun K "walk_rooms" "walk_rooms" oA f fd) (T:TxB K mg CO) (b:cD K fd ["rooms","number","walked"] []) (m:mg "walk_rooms"=some (.ref f)) :
  ∀n,FnOk P w K mg base CX0 (n+1) f fd ["rooms","number","walked"] (lP K n)
 | 0=>qk F T 0 fun m h=>nomatch h
 | n+1=>qk F T (n+1) fun k h=>by
  cases h
  exact⟨f,fd,sr F T b m n,b,F.kp,m⟩
end
end Ord
namespace L2
open PySem
def enc (r:Bk.Room):List (List Int):=r.map fun d=>[d.1,d.2]
theorem gh {r r':Bk.Room}(h:enc r=enc r'):r=r':=by
 unfold enc at h
 exact(List.map_inj_right (f:=fun d:Int×Int=>[d.1,d.2]) (fun a b e=>by
  simp only[List.cons.injEq,and_true] at e
  exact Prod.ext e.1 e.2)).mp h
theorem ye:bootBuiltins "set"=some (.type "set"):=by decide +kernel
end L2
namespace Ord
open PySem L2 Mx
section
variable {P:Program}{w:World}{K:W.Frag}{mg:Str->Option Value}{base:Heap}{CO:Addr}
theorem aV.rep {H:Hp}{x:V}{r:Bk.Room}(h:aV K H x r):ce.rep K H x (enc r):=by
 obtain⟨a,xs,e,q,z⟩:=h
 refine⟨a,xs,e,q,?_⟩
 clear q e
 induction z with
 | nil=>exact .nil
 | cons h _ ih=>
  obtain⟨p,e,q⟩:=h
  exact .cons ⟨p,_,e,q,.cons rfl (.cons rfl .nil)⟩ ih
theorem cB {H:Hp}:∀{xs:List V}{rs:List Bk.Room},Paired (aV K H) xs rs->Paired (ce.rep K H) xs (rs.map enc)
 | _,_,.nil=>.nil
 | _,_,.cons h t=>.cons h.rep (cB t)
theorem ss:FnScope ["rooms","first","walked"] ["rooms","first"] (ap lO):=⟨rfl,rfl,rfl,by decide +kernel,rfl,by decide +kernel,by decide +kernel⟩
end
end Ord
namespace Bk
open Mx
def mL (m:Int) (rs:List Room):Prop:=∀r∈rs,∀d∈r,d.1<m
theorem xx {rs:List Room}{r x:Room}(h:x∈(keep rs r).2):x∈rs∨x=r:=by
 rcases dc rs r with e|⟨_,e,_⟩
 ·rw[e] at h;exact .inl h
 ·rw[e] at h
  rcases List.mem_append.mp h with h|h
  ·exact .inl h
  ·exact .inr (List.mem_singleton.mp h)
theorem nJ {m:Int}{f:ao->List Room->Nat×List Room}{os:ao}(hf:∀t rs,mL m rs->mL m (f (rests t os) rs).2) :
  ∀(ts:List Int) (rs:List Room),(∀t∈ts,t<m)->mL m rs->mL m (aN f os ts rs).2∧∀d∈(aN f os ts rs).1,d.1<m
 | [],rs,_,h=>⟨h,fun d hd=>by cases hd⟩
 | t::ts,rs,ht,h=>by
  obtain⟨a1,a2⟩:=nJ hf ts _ (fun t' h'=>ht t' (List.mem_cons_of_mem _ h')) (hf t rs h)
  refine⟨a1,fun d hd=>?_⟩
  rcases List.mem_cons.mp hd with rfl|hd
  ·exact ht t List.mem_cons_self
  ·exact a2 d hd
theorem qm {m:Int}:∀(n:Nat) (os:ao) (rs:List Room),(∀o∈os,∀x∈o,x<m)->mL m rs->mL m (lay n os rs).2
 | 0,_,_,_,h=>h
 | n+1,os,rs,ho,h=>by
  obtain⟨a1,a2⟩:=nJ (m:=m) (f:=lay n) (os:=os) (fun t rs h=>qm n (rests t os) rs (fun o hr x hx=>ho _ (aZ.mp hr) x (List.mem_cons_of_mem _ hx)) h) (heads os) rs (fun t ht=>by
   obtain⟨_,r,hr⟩:=bF.mp ht
   exact ho _ hr t List.mem_cons_self) h
  intro r hr
  rcases xx hr with hr|rfl
  ·exact a1 r hr
  ·exact a2
theorem qt (rs:List Room) (r:Room):(keep rs r).2.length≤rs.length+1:=by
 rcases dc rs r with e|⟨_,e,_⟩
 ·rw[e];omega
 ·rw[e,List.length_append];simp
def iQ:Nat->Nat
 | 0=>0
 | n+1=>1+(n+1)*iQ n
theorem qu {f:ao->List Room->Nat×List Room}{os:ao}{b:Nat}:∀(ts:List Int) (rs:List Room),(∀t∈ts,∀rs,(f (rests t os) rs).2.length≤rs.length+b)->(aN f os ts rs).2.length≤rs.length+ts.length*b
 | [],rs,_=>by show rs.length≤_;omega
 | t::ts,rs,hf=>by
  have h1:=qu ts (f (rests t os) rs).2 fun t' h'=>hf t' (List.mem_cons_of_mem _ h')
  have h2:=hf t List.mem_cons_self rs
  show(aN f os ts (f (rests t os) rs).2).2.length≤_
  rw[List.length_cons,Nat.succ_mul]
  omega
theorem vF {n:Nat}{S:Int->Prop}{os:ao}(h:eu n S os) (ne:os≠[]):(heads os).length≤n:=by
 obtain⟨o,ho⟩:=List.exists_mem_of_ne_nil os ne
 have so:=h o ho
 have nd:(heads os).Nodup:=(cr os).imp fun h e=>absurd h (by rw[e];omega)
 have:=L2.bP (heads os) o nd fun t ht=>by
  obtain⟨_,r,hr⟩:=bF.mp ht
  exact(so.2.2.2 t).mpr (((h _ hr).2.2.2 t).mp List.mem_cons_self)
 rw[so.1] at this
 exact this
theorem jA:∀(n:Nat) (S:Int->Prop) (os:ao) (rs:List Room),eu n S os->os≠[]->(lay n os rs).2.length≤rs.length+iQ n
 | 0,_,_,rs,_,_=>Nat.le_refl _
 | n+1,S,os,rs,h,ne=>by
  have h1:=qu (f:=lay n) (os:=os) (b:=iQ n) (heads os) rs fun t ht rs=>by
   obtain⟨_,r,hr⟩:=bF.mp ht
   exact jA n _ (rests t os) rs (h.rests t) (fun e=>by
    have:=aZ.mpr hr
    rw[e] at this
    cases this)
  have h2:=vF h ne
  have h3:=qt (aN (lay n) os (heads os) rs).2 (aN (lay n) os (heads os) rs).1
  have h4:(heads os).length*iQ n≤(n+1)*iQ n:=Nat.mul_le_mul_right _ h2
  show(keep _ _).2.length≤_
  unfold iQ
  omega
end Bk
namespace Bk
open Mx
def cnt (m:Nat):Nat:=(m.testBit 0).toNat+(m.testBit 1).toNat+(m.testBit 2).toNat+(m.testBit 3).toNat+(m.testBit 4).toNat+(m.testBit 5).toNat+(m.testBit 6).toNat+(m.testBit 7).toNat
theorem AU (m:Nat):cnt m≤8:=by
 have h:∀b:Bool,b.toNat≤1:=fun b=>by cases b <;> decide
 have:=h (m.testBit 0);have:=h (m.testBit 1);have:=h (m.testBit 2);have:=h (m.testBit 3)
 have:=h (m.testBit 4);have:=h (m.testBit 5);have:=h (m.testBit 6);have:=h (m.testBit 7)
 unfold cnt
 omega
theorem AV {t m:Nat}(ht:t<8) (h:m.testBit t=false):cnt (2 ^ t ||| m)=cnt m+1:=by
 have key:∀i,(2 ^ t ||| m).testBit i=(decide (t=i)||m.testBit i):=fun i=>by rw[Nat.testBit_or,Nat.testBit_two_pow]
 unfold cnt
 simp only[key]
 match t,ht with
 | 0,_=>simp[h];omega
 | 1,_=>simp[h];omega
 | 2,_=>simp[h];omega
 | 3,_=>simp[h];omega
 | 4,_=>simp[h];omega
 | 5,_=>simp[h];omega
 | 6,_=>simp[h];omega
 | 7,_=>simp[h]
 | t+8,ht=>omega
theorem qv {α:Type}{b:Nat}{g:Int×Int->List α}:∀(r:Room),(∀d∈r,(g d).length≤b)->(r.flatMap g).length≤r.length*b
 | [],_=>Nat.zero_le _
 | d::r,h=>by
  have h1:=qv r fun d' h'=>h d' (List.mem_cons_of_mem _ h')
  have h2:=h d List.mem_cons_self
  rw[List.flatMap_cons,List.length_append,List.length_cons,Nat.succ_mul]
  omega
theorem vG {r:Room}(rise:(r.map (·.1)).Pairwise (· < ·)) (h:∀d∈r,0≤d.1∧d.1<8):r.length≤8:=by
 have nd:(r.map (·.1)).Nodup:=rise.imp fun h e=>absurd h (by rw[e];omega)
 have:=L2.bP (r.map (·.1)) (aE 8) nd fun x hx=>by
  obtain⟨d,hd,rfl⟩:=List.mem_map.mp hx
  exact bD.mpr (h d hd)
 rw[List.length_map,aQ] at this
 exact this
theorem nK {rs:List Room}(wf:WF rs) (mk:MOk rs):∀(n k:Nat),k≤n->1≤k->k<rs.length+2->(sem rs k).length≤8 ^ cnt (msk rs k)∧∀o∈sem rs k,o.length≤k
 | 0,k,h,h1,_=>by omega
 | n+1,k,h,h1,hk=>by
  by_cases c:k=1
  ·subst c
   rw[cW]
   refine⟨Nat.one_le_pow _ _ (by decide),fun o ho=>?_⟩
   rw[List.mem_singleton.mp ho]
   exact Nat.zero_le _
  obtain⟨r,e,ok,es⟩:=dh wf (by omega) hk
  have each:∀d∈r,0≤d.1∧d.1<8∧(sem rs d.2.toNat).length≤8 ^ (cnt (msk rs k)-1)∧1≤cnt (msk rs k)∧∀o∈sem rs d.2.toNat,o.length+1≤k:=fun d hd=>by
   obtain⟨a1,a2,a3,a4⟩:=mk _ _ e d hd
   have ah:=ok.ahead d hd
   obtain⟨b1,b2⟩:=nK wf mk n d.2.toNat (by omega) (by omega) (by omega)
   rw[show k-2+2=k by omega] at a4
   have:=AV (t:=d.1.toNat) (by omega) a3
   rw[a4] at this
   refine⟨a1,a2,?_,by omega,fun o ho=>?_⟩
   ·rw[this];exact b1
   ·have:=b2 o ho;omega
  rw[es]
  refine⟨?_,fun o ho=>?_⟩
  ·have h1:=qv (g:=fun d=>(sem rs d.2.toNat).map (d.1::·)) (b:=8 ^ (cnt (msk rs k)-1)) r fun d hd=>by rw[List.length_map];exact(each d hd).2.2.1
   have h2:=vG ok.rise fun d hd=>⟨(each d hd).1,(each d hd).2.1⟩
   obtain⟨d,hd⟩:=List.exists_mem_of_ne_nil r ok.ne
   have h3:=(each d hd).2.2.2.1
   have h4:r.length*8 ^ (cnt (msk rs k)-1)≤8*8 ^ (cnt (msk rs k)-1):=Nat.mul_le_mul_right _ h2
   have h5:8*8 ^ (cnt (msk rs k)-1)=8 ^ cnt (msk rs k):=by
    rw[Nat.mul_comm,←Nat.pow_succ,show(cnt (msk rs k)-1).succ=cnt (msk rs k) by omega]
   omega
  ·obtain⟨d,hd,hm⟩:=List.mem_flatMap.mp ho
   obtain⟨o',ho',rfl⟩:=List.mem_map.mp hm
   have:=(each d hd).2.2.2.2 o' ho'
   rw[List.length_cons]
   exact this
theorem tW {rs:List Room}(wf:WF rs) (mk:MOk rs) (few:rs.length<90):∀os∈bj rs,os.length≤16777216∧∀o∈os,o.length≤100:=by
 intro os ho
 obtain⟨k,hk,e⟩:=List.getElem_of_mem ho
 have hk':=hk
 rw[du] at hk'
 have es:os=sem rs k:=by
  unfold sem
  rw[List.getD_eq_getElem?_getD,List.getElem?_eq_getElem hk,←e]
  rfl
 by_cases c:k=0
 ·subst c
  rw[pW] at es
  subst es
  exact⟨Nat.zero_le _,fun o h=>by cases h⟩
 obtain⟨h1,h2⟩:=nK wf mk k k (Nat.le_refl _) (by omega) hk'
 rw[es]
 refine⟨Nat.le_trans h1 (Nat.le_trans (Nat.pow_le_pow_right (by decide) (AU _)) (by decide)),fun o h=>?_⟩
 have:=h2 o h
 omega
end Bk
namespace Bk
open Mx
def fS (t:Int) (o:List Int):Bool:=match o with
 | x::_=>decide (x=t)
 | []=>false
theorem jB {t t':Int}(h:t'≠t):∀os:ao,rests t' (os.filter fun o=>!fS t o)=rests t' os
 | []=>rfl
 | o::os=>by
  have ih:=jB h os
  unfold rests at ih ⊢
  cases o with
  | nil=>rw[List.filter_cons_of_pos rfl,List.filterMap_cons,List.filterMap_cons,ih]
  | cons x o=>
   by_cases c:x=t
   ·rw[List.filter_cons_of_neg (by simp[fS,c]),ih,List.filterMap_cons]
    have:cZ t' (x::o)=none:=if_neg (by rw[c];exact Ne.symm h)
    rw[this]
   ·rw[List.filter_cons_of_pos (by simp[fS,c]),List.filterMap_cons,List.filterMap_cons,ih]
theorem kB (t:Int):∀os:ao,(rests t os).length+(os.filter fun o=>!fS t o).length≤os.length
 | []=>Nat.le_refl _
 | o::os=>by
  have ih:=kB t os
  unfold rests at ih ⊢
  cases o with
  | nil=>
   rw[List.filter_cons_of_pos rfl,List.filterMap_cons]
   have:cZ t []=none:=rfl
   rw[this]
   simp only[List.length_cons]
   omega
  | cons x o=>
   by_cases c:x=t
   ·rw[List.filter_cons_of_neg (by simp[fS,c]),List.filterMap_cons]
    have:cZ t (x::o)=some o:=if_pos c
    rw[this]
    simp only[List.length_cons]
    omega
   ·rw[List.filter_cons_of_pos (by simp[fS,c]),List.filterMap_cons]
    have:cZ t (x::o)=none:=if_neg c
    rw[this]
    simp only[List.length_cons]
    omega
theorem gI:∀(ts:List Int) (os:ao),ts.Nodup->(ts.map fun t=>(rests t os).length).sum≤os.length
 | [],os,_=>Nat.zero_le _
 | t::ts,os,nd=>by
  rw[List.nodup_cons] at nd
  have ih:=gI ts (os.filter fun o=>!fS t o) nd.2
  have e:(ts.map fun t'=>(rests t' (os.filter fun o=>!fS t o)).length)=ts.map fun t'=>(rests t' os).length:=List.map_congr_left fun t' h'=>by
   have ne:t'≠t:=by rintro rfl;exact nd.1 h'
   rw[jB ne]
  rw[e] at ih
  have:=kB t os
  rw[List.map_cons,List.sum_cons]
  omega
theorem iR {f:ao->List Room->Nat×List Room}{os:ao}{b:Int->Nat}:∀(ts:List Int) (rs:List Room),(∀t∈ts,∀rs,(f (rests t os) rs).2.length≤rs.length+b t)->(aN f os ts rs).2.length≤rs.length+(ts.map b).sum
 | [],rs,_=>by show rs.length≤_;omega
 | t::ts,rs,hf=>by
  have h1:=iR ts (f (rests t os) rs).2 fun t' h'=>hf t' (List.mem_cons_of_mem _ h')
  have h2:=hf t List.mem_cons_self rs
  show(aN f os ts (f (rests t os) rs).2).2.length≤_
  rw[List.map_cons,List.sum_cons]
  omega
theorem j0 (n:Nat) (g:Int->Nat):∀ts:List Int,(ts.map fun t=>g t*n).sum=(ts.map g).sum*n
 | []=>by simp
 | t::ts=>by rw[List.map_cons,List.map_cons,List.sum_cons,List.sum_cons,j0 n g ts,Nat.add_mul]
theorem gJ:∀(n:Nat) (os:ao) (rs:List Room),os≠[]->(lay n os rs).2.length≤rs.length+os.length*n
 | 0,_,rs,_=>by show rs.length≤_;omega
 | n+1,os,rs,ne=>by
  have h1:=iR (f:=lay n) (os:=os) (b:=fun t=>(rests t os).length*n) (heads os) rs fun t ht rs=>by
   obtain⟨_,r,hr⟩:=bF.mp ht
   exact gJ n (rests t os) rs fun e=>by
    have:=aZ.mpr hr
    rw[e] at this
    cases this
  rw[j0 n (fun t=>(rests t os).length)] at h1
  have nd:(heads os).Nodup:=(cr os).imp fun h e=>absurd h (by rw[e];omega)
  have h2:=Nat.mul_le_mul_right n (gI (heads os) os nd)
  have h3:=qt (aN (lay n) os (heads os) rs).2 (aN (lay n) os (heads os) rs).1
  have h4:0<os.length:=List.length_pos_iff.mpr ne
  show(keep _ _).2.length≤_
  rw[Nat.mul_succ]
  omega
end Bk
namespace Bk
open Mx
def atP (p:Nat) (o:List Int):Int:=(o[p]?).getD 0
def jC (p:Nat) (g:List (Int×ao)) (o:List Int):List (Int×ao):=
 if atP p o∈g.map (·.1) then g.map (fun e=>if e.1=atP p o then (e.1,e.2++[o]) else e) else g++[(atP p o,[o])]
structure Grp (p:Nat) (os:ao) (g:List (Int×ao)):Prop where
 nd:(g.map (·.1)).Nodup
 each:∀e∈g,e.2=os.filter fun o=>decide (atP p o=e.1)
 all:∀o∈os,atP p o∈g.map (·.1)
 one:∀e∈g,e.2≠[]
theorem Grp.nil (p:Nat):Grp p [] []:=⟨List.nodup_nil,(fun e h=>nomatch h),(fun o h=>nomatch h),(fun e h=>nomatch h)⟩
theorem Grp.add {p:Nat}{os:ao}{g:List (Int×ao)}(G:Grp p os g) (o:List Int):Grp p (os++[o]) (jC p g o):=by
 unfold jC
 by_cases c:atP p o∈g.map (·.1)
 ·rw[if_pos c]
  have keys:(g.map (fun e=>if e.1=atP p o then (e.1,e.2++[o]) else e)).map (·.1)=g.map (·.1):=by
   rw[List.map_map]
   refine List.map_congr_left fun e _=>?_
   show(if e.1=atP p o then (e.1,e.2++[o]) else e).1=e.1
   split <;> rfl
  refine⟨by rw[keys];exact G.nd,fun e he=>?_,fun x hx=>?_,fun e he=>?_⟩
  ·obtain⟨e0,h0,rfl⟩:=List.mem_map.mp he
   rw[List.filter_append]
   by_cases k:e0.1=atP p o
   ·rw[if_pos k,G.each e0 h0]
    simp[k]
   ·rw[if_neg k,G.each e0 h0]
    simp[Ne.symm k]
  ·rw[keys]
   rcases List.mem_append.mp hx with h|h
   ·exact G.all x h
   ·rw[List.mem_singleton.mp h];exact c
  ·obtain⟨e0,h0,rfl⟩:=List.mem_map.mp he
   by_cases k:e0.1=atP p o
   ·rw[if_pos k];simp
   ·rw[if_neg k];exact G.one e0 h0
 ·rw[if_neg c]
  refine⟨?_,fun e he=>?_,fun x hx=>?_,fun e he=>?_⟩
  ·rw[List.map_append,List.nodup_append]
   exact⟨G.nd,by simp,fun x hx y hy=>by
    have:y=atP p o:=by simpa using hy
    rw[this]
    rintro rfl
    exact c hx⟩
  ·rw[List.filter_append]
   rcases List.mem_append.mp he with h|h
   ·have k:¬atP p o=e.1:=fun k=>c (by rw[k];exact List.mem_map.mpr ⟨e,h,rfl⟩)
    rw[G.each e h]
    simp[k]
   ·rw[List.mem_singleton.mp h]
    have:os.filter (fun x=>decide (atP p x=atP p o))=[]:=List.filter_eq_nil_iff.mpr fun x hx hk=>c (by
     have:=G.all x hx
     rw[of_decide_eq_true hk] at this
     exact this)
    rw[this]
    simp
  ·rw[List.map_append]
   rcases List.mem_append.mp hx with h|h
   ·exact List.mem_append_left _ (G.all x h)
   ·rw[List.mem_singleton.mp h];exact List.mem_append_right _ (by simp)
  ·rcases List.mem_append.mp he with h|h
   ·exact G.one e h
   ·rw[List.mem_singleton.mp h];simp
def bN (p:Nat) (os:ao):List (Int×ao):=os.foldl (jC p) []
theorem eB (p:Nat) (os:ao) (o:List Int):bN p (os++[o])=jC p (bN p os) o:=by unfold bN;rw[List.foldl_append];rfl
theorem mM {α:Type}{P:List α->Prop}(h0:P []) (h1:∀l x,P l->P (l++[x])) (l:List α):P l:=by
 have:∀l:List α,P l.reverse:=fun l=>by
  induction l with
  | nil=>exact h0
  | cons x l ih=>rw[List.reverse_cons];exact h1 _ _ ih
 have:=this l.reverse
 rw[List.reverse_reverse] at this
 exact this
theorem eY (p:Nat) (os:ao):Grp p os (bN p os):=
 mM (P:=fun os=>Grp p os (bN p os)) (Grp.nil p) (fun l x ih=>by rw[eB];exact ih.add x) os
theorem rq (p:Nat) (os:ao):(os.map (atP p)).Pairwise (·≤·)->((bN p os).map (·.1)).Pairwise (· < ·):=by
 refine mM (P:=fun os=>(os.map (atP p)).Pairwise (·≤·)->((bN p os).map (·.1)).Pairwise (· < ·)) (fun _=>List.Pairwise.nil) (fun l x ih h=>?_) os
 rw[List.map_append,List.pairwise_append] at h
 obtain⟨h1,_,h3⟩:=h
 rw[eB]
 unfold jC
 by_cases c:atP p x∈(bN p l).map (·.1)
 ·rw[if_pos c,List.map_map]
  have keys:((fun e:Int×ao=>e.1)∘fun e:Int×ao=>if e.1=atP p x then (e.1,e.2++[x]) else e)=fun e=>e.1:=by
   funext e
   show(if e.1=atP p x then (e.1,e.2++[x]) else e).1=e.1
   split <;> rfl
  rw[keys]
  exact ih h1
 ·rw[if_neg c,List.map_append,List.pairwise_append]
  refine⟨ih h1,by simp,fun a ha b hb=>?_⟩
  have eb:b=atP p x:=by simpa using hb
  subst eb
  obtain⟨e,he,rfl⟩:=List.mem_map.mp ha
  have G:=eY p l
  obtain⟨o,ho⟩:=List.exists_mem_of_ne_nil _ (G.one e he)
  rw[G.each e he] at ho
  obtain⟨ho1,ho2⟩:=List.mem_filter.mp ho
  have le:=h3 (atP p o) (List.mem_map.mpr ⟨o,ho1,rfl⟩) (atP p x) (by simp)
  rw[of_decide_eq_true ho2] at le
  have:e.1≠atP p x:=fun z=>c (z▸ha)
  omega
end Bk
namespace Bk
open Mx
theorem gK {f:ao->List Room->Nat×List Room}{os:ao}{t:Int}:∀(ts:List Int) (rs:List Room),aN f os (ts++[t]) rs=((aN f os ts rs).1++[(t,((f (rests t os) (aN f os ts rs).2).1:Int))],(f (rests t os) (aN f os ts rs).2).2)
 | [],rs=>rfl
 | t'::ts,rs=>by
  show((t',_)::(aN f os (ts++[t]) _).1,(aN f os (ts++[t]) _).2)=_
  rw[gK ts]
  rfl
theorem fE {p:Nat}{o:List Int}(h:p<o.length):o.drop p=atP p o::o.drop (p+1):=by
 rw[List.drop_eq_getElem_cons h]
 unfold atP
 rw[List.getElem?_eq_getElem h]
 rfl
theorem kC {p:Nat}{t:Int}:∀{os:ao},(∀o∈os,p<o.length)->(os.filter fun o=>decide (atP p o=t)).map (List.drop (p+1))=rests t (os.map (List.drop p))
 | [],_=>rfl
 | o::os,h=>by
  have ih:=kC (t:=t) (os:=os) fun o' h'=>h o' (List.mem_cons_of_mem _ h')
  have ho:=h o List.mem_cons_self
  unfold rests at ih ⊢
  rw[List.map_cons,List.filterMap_cons,fE ho]
  by_cases c:atP p o=t
  ·rw[List.filter_cons_of_pos (by simpa using c),List.map_cons,ih]
   have:cZ t (atP p o::o.drop (p+1))=some (o.drop (p+1)):=if_pos c
   rw[this]
  ·rw[List.filter_cons_of_neg (by simpa using c),ih]
   have:cZ t (atP p o::o.drop (p+1))=none:=if_neg c
   rw[this]
theorem j1:∀{a b:List Int},a.Pairwise (· < ·)->b.Pairwise (· < ·)->(∀x,x∈a↔x∈b)->a=b
 | [],[],_,_,_=>rfl
 | [],y::b,_,_,h=>absurd ((h y).mpr List.mem_cons_self) (fun z=>nomatch z)
 | x::a,[],_,_,h=>absurd ((h x).mp List.mem_cons_self) (fun z=>nomatch z)
 | x::a,y::b,ha,hb,h=>by
  rw[List.pairwise_cons] at ha hb
  have e:x=y:=by
   have h1:=(h x).mp List.mem_cons_self
   have h2:=(h y).mpr List.mem_cons_self
   rcases List.mem_cons.mp h1 with h1|h1
   ·exact h1
   rcases List.mem_cons.mp h2 with h2|h2
   ·exact h2.symm
   have:=hb.1 x h1
   have:=ha.1 y h2
   omega
  subst e
  rw[j1 ha.2 hb.2 fun z=>⟨fun hz=>by
   rcases List.mem_cons.mp ((h z).mp (List.mem_cons_of_mem _ hz)) with e|e
   ·have:=ha.1 z hz;omega
   ·exact e,fun hz=>by
   rcases List.mem_cons.mp ((h z).mpr (List.mem_cons_of_mem _ hz)) with e|e
   ·have:=hb.1 z hz;omega
   ·exact e⟩]
structure OrdsOk (p n:Nat) (os:ao):Prop where
 ne:os≠[]
 len:∀o∈os,o.length=p+n
 things:∀o∈os,∀x∈o,0≤x∧x<8
 rise:os.Pairwise fun a b=>¬lt (b.drop p) (a.drop p)
section
variable {p n:Nat}{os:ao}
theorem OrdsOk.at_le (ok:OrdsOk p (n+1) os):(os.map (atP p)).Pairwise (·≤·):=by
 rw[List.pairwise_map]
 refine ok.rise.imp_of_mem fun {a b} ha hb h=>?_
 have la:=ok.len a ha
 have lb:=ok.len b hb
 rw[fE (show p<a.length by omega),fE (show p<b.length by omega)] at h
 refine Int.not_lt.mp fun z=>h ?_
 exact .inl z
theorem OrdsOk.keys (ok:OrdsOk p (n+1) os):(bN p os).map (·.1)=heads (os.map (List.drop p)):=by
 refine j1 (rq p os ok.at_le) (cr _) fun t=>?_
 have G:=eY p os
 rw[bF]
 constructor
 ·intro h
  obtain⟨e,he,rfl⟩:=List.mem_map.mp h
  obtain⟨o,ho⟩:=List.exists_mem_of_ne_nil _ (G.one e he)
  rw[G.each e he] at ho
  obtain⟨h1,h2⟩:=List.mem_filter.mp ho
  have lo:=ok.len o h1
  have e1:=fE (show p<o.length by omega)
  have e2:atP p o=e.1:=of_decide_eq_true h2
  rw[e2] at e1
  have mem:e.1∈o:=List.mem_of_mem_drop (i:=p) (by rw[e1];exact List.mem_cons_self)
  exact⟨ok.things o h1 _ mem,o.drop (p+1),List.mem_map.mpr ⟨o,h1,e1⟩⟩
 ·rintro⟨_,r,hr⟩
  obtain⟨o,ho,e⟩:=List.mem_map.mp hr
  have lo:=ok.len o ho
  rw[fE (show p<o.length by omega)] at e
  have e2:atP p o=t:=(List.cons.inj e).1
  rw[←e2]
  exact G.all o ho
theorem OrdsOk.group (ok:OrdsOk p (n+1) os) {e:Int×ao}(he:e∈bN p os):OrdsOk (p+1) n e.2∧e.2.map (List.drop (p+1))=rests e.1 (os.map (List.drop p))∧e.2.length≤os.length:=by
 have G:=eY p os
 have ee:=G.each e he
 have sub:∀o∈e.2,o∈os∧atP p o=e.1:=fun o ho=>by
  rw[ee] at ho
  obtain⟨h1,h2⟩:=List.mem_filter.mp ho
  exact⟨h1,of_decide_eq_true h2⟩
 refine⟨⟨G.one e he,fun o ho=>by have:=ok.len o (sub o ho).1;omega,fun o ho=>ok.things o (sub o ho).1,?_⟩,?_,?_⟩
 ·have r1:e.2.Pairwise fun a b=>¬lt (b.drop p) (a.drop p):=by rw[ee];exact ok.rise.sublist (List.filter_sublist)
  refine r1.imp_of_mem fun {a b} ha hb h=>?_
  have la:=ok.len a (sub a ha).1
  have lb:=ok.len b (sub b hb).1
  rw[fE (show p<a.length by omega),fE (show p<b.length by omega),(sub a ha).2,(sub b hb).2] at h
  exact fun z=>h (.inr ⟨rfl,z⟩)
 ·rw[ee]
  exact kC fun o ho=>by have:=ok.len o ho;omega
 ·rw[ee]
  exact List.length_filter_le _ _
end
end Bk
namespace Bk
open Mx
def qw (rs:List Room):Prop:=∀r∈rs,∀d∈r,0≤d.1∧d.1<8
theorem jD (t u:Int):∀os:ao,rests t (os.map (u::·))=if u=t then os else []
 | []=>by simp[rests]
 | o::os=>by
  have ih:=jD t u os
  unfold rests at ih ⊢
  rw[List.map_cons,List.filterMap_cons,ih]
  by_cases e:u=t
  ·simp[cZ,e]
  ·simp[cZ,e]
theorem nL (t:Int) (a b:ao):rests t (a++b)=rests t a++rests t b:=by unfold rests;rw[List.filterMap_append]
theorem lQ {g:Int×Int->ao}{t:Int}:∀{r:Room},(∀d∈r,d.1≠t)->rests t (r.flatMap fun d=>(g d).map (d.1::·))=[]
 | [],_=>rfl
 | d::r,h=>by
  rw[List.flatMap_cons,nL,jD,if_neg (h d List.mem_cons_self),lQ fun e he=>h e (List.mem_cons_of_mem _ he)]
  rfl
theorem lR {g:Int×Int->ao}:∀{r:Room}{d:Int×Int},(r.map (·.1)).Pairwise (· < ·)->d∈r->rests d.1 (r.flatMap fun d=>(g d).map (d.1::·))=g d
 | [],_,_,h=>nomatch h
 | e::r,d,p,h=>by
  rw[List.map_cons,List.pairwise_cons] at p
  rw[List.flatMap_cons,nL,jD]
  rcases List.mem_cons.mp h with rfl|h
  ·rw[if_pos rfl,lQ fun x hx=>?_,List.append_nil]
   have:=p.1 x.1 (List.mem_map.mpr ⟨x,hx,rfl⟩)
   omega
  ·have:=p.1 d.1 (List.mem_map.mpr ⟨d,h,rfl⟩)
   rw[if_neg (by omega),lR p.2 h,List.nil_append]
theorem tX {g:Int×Int->ao}{r:Room}(p:(r.map (·.1)).Pairwise (· < ·)) (th:∀d∈r,0≤d.1∧d.1<8) (ne:∀d∈r,g d≠[]):heads (r.flatMap fun d=>(g d).map (d.1::·))=r.map (·.1):=by
 refine j1 (cr _) p fun x=>?_
 rw[bF,List.mem_map]
 constructor
 ·rintro⟨_,o,ho⟩
  obtain⟨d,hd,ho⟩:=List.mem_flatMap.mp ho
  obtain⟨o',_,e⟩:=List.mem_map.mp ho
  exact⟨d,hd,(List.cons.inj e).1⟩
 ·rintro⟨d,hd,rfl⟩
  obtain⟨o,ho⟩:=List.exists_mem_of_ne_nil _ (ne d hd)
  exact⟨th d hd,o,List.mem_flatMap.mpr ⟨d,hd,List.mem_map.mpr ⟨o,ho,rfl⟩⟩⟩
structure AtR (rs:List Room) (k:Nat) (r:Room):Prop where
 at_:rs[k-2]?=some r
 ok:Room.Ok (k-2) r
 heads:heads (sem rs k)=r.map (·.1)
 rests:∀d∈r,rests d.1 (sem rs k)=sem rs d.2.toNat
theorem atR {rs:List Room}(wf:WF rs) (th:qw rs) {k:Nat}(h2:2≤k) (hk:k<rs.length+2):∃r,AtR rs k r:=by
 obtain⟨r,e,ok,es⟩:=dh wf h2 hk
 have hr:=List.mem_of_getElem? e
 refine⟨r,e,ok,?_,fun d hd=>?_⟩
 ·rw[es]
  refine tX ok.rise (th r hr) fun d hd=>?_
  have ah:=ok.ahead d hd
  exact fQ wf _ _ (Nat.le_refl _) (by omega) (by omega)
 ·rw[es]
  exact lR ok.rise hd
theorem nM {rs:List Room}(wf:WF rs) {k:Nat}(h1:1≤k) (hk:k<rs.length+2) (h:∀o∈sem rs k,o.length=0):k=1:=by
 rcases Nat.lt_or_ge k 2 with c|c
 ·omega
 ·obtain⟨r,e,ok,es⟩:=dh wf c hk
  obtain⟨o,ho⟩:=List.exists_mem_of_ne_nil _ (fQ wf k k (Nat.le_refl _) h1 hk)
  have hl:=h o ho
  rw[es] at ho
  obtain⟨d,_,ho⟩:=List.mem_flatMap.mp ho
  obtain⟨o',_,rfl⟩:=List.mem_map.mp ho
  cases hl
theorem qx {rs:List Room}(wf:WF rs) {n k:Nat}(h1:1≤k) (h:∀o∈sem rs k,o.length=n+1):2≤k:=by
 rcases Nat.lt_or_ge k 2 with c|c
 ·have:k=1:=by omega
  subst this
  have:=h [] (by rw[cW];exact List.mem_singleton_self _)
  cases this
 ·exact c
theorem AtR.len {rs:List Room}{n k:Nat}{r:Room}(A:AtR rs k r) (h:∀o∈sem rs k,o.length=n+1) {d:Int×Int}(hd:d∈r):∀o∈sem rs d.2.toNat,o.length=n:=fun o ho=>by
 rw[←A.rests d hd] at ho
 have:=h _ (aZ.mp ho)
 simpa using this
theorem zE {rs:List Room}{m k:Nat}{r:Room}(e:rs[k-2]?=some r) (h2:2≤k) (hm:k<m+2):(rs.take m)[k-2]?=some r:=by
 rw[List.getElem?_take,if_pos (by omega),e]
theorem AW {l:List Room}{i:Nat}{r:Room}(nd:l.Nodup) (e:l[i]?=some r):r∈l∧l.idxOf r=i:=by
 have hr:=List.mem_of_getElem? e
 refine⟨hr,?_⟩
 have hl:=List.idxOf_lt_length_of_mem hr
 have e2:l[l.idxOf r]?=some r:=by rw[List.getElem?_eq_getElem hl,List.getElem_idxOf]
 obtain⟨hi,_⟩:=List.getElem?_eq_some_iff.mp e
 exact(List.getElem?_inj hl nd).mp (e2.trans e.symm)
theorem nO {rs:List Room}(wf:WF rs) (th:qw rs) (nd:rs.Nodup):∀(n m k:Nat),1≤k->k<m+2->m≤rs.length->(∀o∈sem rs k,o.length=n)->lay n (sem rs k) (rs.take m)=(k,rs.take m)
 | 0,m,k,h1,hk,hm,h=>by
  rw[nM wf h1 (by omega) h]
  rfl
 | n+1,m,k,h1,hk,hm,h=>by
  have h2:=qx wf h1 h
  obtain⟨r,A⟩:=atR wf th h2 (by omega)
  have each:∀d∈r,1≤d.2∧lay n (rests d.1 (sem rs k)) (rs.take m)=(d.2.toNat,rs.take m):=fun d hd=>by
   have ah:=A.ok.ahead d hd
   rw[A.rests d hd]
   exact⟨ah.1,nO wf th nd n m d.2.toNat (by omega) (by omega) hm (A.len h hd)⟩
  have all:∀ds:Room,(∀d∈ds,d∈r)->aN (lay n) (sem rs k) (ds.map (·.1)) (rs.take m)=(ds,rs.take m):=fun ds=>by
   induction ds with
   | nil=>intro _;rfl
   | cons d ds ih=>
    intro hd
    obtain⟨p,e⟩:=each d (hd d List.mem_cons_self)
    rw[List.map_cons]
    unfold aN
    rw[e]
    dsimp only
    rw[ih fun x hx=>hd x (List.mem_cons_of_mem _ hx),Int.toNat_of_nonneg (by omega)]
  unfold lay
  rw[A.heads,all r fun _ h=>h]
  dsimp only
  unfold keep
  obtain⟨hr,hi⟩:=AW ((List.take_sublist m rs).nodup nd) (zE A.at_ h2 hk)
  rw[if_pos hr,hi,show k-2+2=k by omega]
theorem dU {f:List Int->Int×Int->List Int}(hf:∀w d,w <+: f w d):∀(ds:Room) (w:List Int),w <+: ds.foldl f w
 | [],_=>List.prefix_rfl
 | d::ds,w=>by rw[List.foldl_cons];exact(hf w d).trans (dU hf ds _)
theorem gz (rs:List Room):∀(n:Nat) (k:Int) (w:List Int),w <+: walk n rs k w
 | 0,_,_=>List.prefix_rfl
 | n+1,k,w=>by
  unfold walk
  split
  ·exact List.prefix_rfl
  ·exact(dU (fun w d=>gz rs n d.2 w) _ _).trans (List.prefix_append _ _)
theorem qy {w:List Int}{M:Nat}(h:w <+: aE M):w=aE w.length∧w.length≤M:=by
 have hl:=h.length_le
 rw[aQ] at hl
 refine⟨?_,hl⟩
 have e:=List.prefix_iff_eq_take.mp h
 have e2:(aE M).take w.length=aE w.length:=by
  unfold aE
  rw[←List.map_take,List.take_range,Nat.min_eq_left hl]
 rw[←e2]
 exact e
theorem qz {a b:Nat}(h:aE a=aE b):a=b:=by
 have:=congrArg List.length h
 rwa[aQ,aQ] at this
theorem su {rs:List Room}(wf:WF rs) (th:qw rs) (nd:rs.Nodup):∀(n j m m' k:Nat),n≤j->1≤k->k<rs.length+2->m≤rs.length->m'≤rs.length->(∀o∈sem rs k,o.length=n)->
  walk j rs (k:Int) (aE (m+2))=aE (m'+2)->lay n (sem rs k) (rs.take m)=(k,rs.take m')
 | n,j,m,m',k,hj,h1,hk,hm,hm',h,hw=>by
  by_cases c:k<m+2
  ·rw[fD (bD.mpr ⟨by omega,by omega⟩)] at hw
   have:m=m':=by have:=qz hw;omega
   subst this
   exact nO wf th nd n m k h1 c hm h
  ·cases n with
   | zero=>have:=nM wf h1 hk h;omega
   | succ n=>
    obtain⟨j,rfl⟩:∃j',j=j'+1:=⟨j-1,by omega⟩
    have h2:=qx wf h1 h
    obtain⟨r,A⟩:=atR wf th h2 hk
    have hr:aA rs (k:Int)=r:=by
     unfold aA
     rw[show((k:Int)-2).toNat=k-2 by omega,A.at_]
     rfl
    unfold walk at hw
    rw[if_neg (fun z=>by have:=(bD.mp z).2;omega),hr] at hw
    have all:∀(ds:Room) (a b:Nat),(∀d∈ds,d∈r)->a≤rs.length->b≤rs.length->ds.foldl (fun w d=>walk j rs d.2 w) (aE (a+2))=aE (b+2)->
      aN (lay n) (sem rs k) (ds.map (·.1)) (rs.take a)=(ds,rs.take b):=fun ds=>by
     induction ds with
     | nil=>
      intro a b _ _ _ e
      have:a=b:=by have:=qz e;omega
      subst this
      rfl
     | cons d ds ih=>
      intro a b hd ha hb e
      rw[List.foldl_cons] at e
      have p2:=dU (fun w (d:Int×Int)=>gz rs j d.2 w) ds (walk j rs d.2 (aE (a+2)))
      rw[e] at p2
      obtain⟨e2,l2⟩:=qy p2
      have p1:=(gz rs j d.2 (aE (a+2))).length_le
      rw[aQ] at p1
      obtain⟨c,hc⟩:∃c,(walk j rs d.2 (aE (a+2))).length=c+2:=⟨(walk j rs d.2 (aE (a+2))).length-2,by omega⟩
      rw[hc] at e2 l2
      have ah:=A.ok.ahead d (hd d List.mem_cons_self)
      have e3:((d.2.toNat:Nat):Int)=d.2:=Int.toNat_of_nonneg (by omega)
      have IH:=su wf th nd n j a c d.2.toNat (by omega) (by omega) (by omega) ha (by omega) (A.len h (hd d List.mem_cons_self)) (by rw[e3];exact e2)
      rw[List.map_cons]
      unfold aN
      rw[A.rests d (hd d List.mem_cons_self),IH]
      dsimp only
      rw[ih c b (fun x hx=>hd x (List.mem_cons_of_mem _ hx)) (by omega) hb (by rw[←e2];exact e),e3]
    have p2:r.foldl (fun w d=>walk j rs d.2 w) (aE (m+2)) <+: aE (m'+2):=by rw[←hw];exact List.prefix_append _ _
    obtain⟨e2,l2⟩:=qy p2
    have p1:=(dU (fun w (d:Int×Int)=>gz rs j d.2 w) r (aE (m+2))).length_le
    rw[aQ] at p1
    obtain⟨c,hc⟩:∃c,(r.foldl (fun w d=>walk j rs d.2 w) (aE (m+2))).length=c+2:=⟨(r.foldl (fun w d=>walk j rs d.2 w) (aE (m+2))).length-2,by omega⟩
    rw[hc] at e2 l2
    rw[e2] at hw
    have hl:=congrArg List.length hw
    rw[List.length_append,aQ,aQ] at hl
    have hm1:m'=c+1:=by simp at hl;omega
    subst hm1
    rw[show c+1+2=(c+2)+1 by omega,jx (c+2)] at hw
    have hkc:(k:Int)=((c+2:Nat):Int):=by simpa using List.append_cancel_left hw
    have hkc:k=c+2:=by omega
    unfold lay
    rw[A.heads,all r m c (fun _ h=>h) hm (by omega) e2]
    dsimp only
    have hat:rs[c]?=some r:=by rw[←A.at_,hkc];rfl
    obtain⟨hcl,hcr⟩:=List.getElem?_eq_some_iff.mp hat
    have hn:r∉rs.take c:=fun z=>by
     obtain⟨i,hi⟩:=List.getElem?_of_mem z
     have hic:i<c:=by
      obtain⟨hl,_⟩:=List.getElem?_eq_some_iff.mp hi
      rw[List.length_take] at hl
      omega
     rw[List.getElem?_take,if_pos hic] at hi
     have:=(List.getElem?_inj (by omega) nd).mp (hi.trans hat.symm)
     omega
    unfold keep
    rw[if_neg hn,List.length_take,Nat.min_eq_left (by omega),List.take_add_one,hat]
    rw[hkc]
    rfl
theorem DM {rs:List Room}(wf:WF rs) (th:qw rs) (nd:rs.Nodup) {many first j:Nat}(hj:many≤j) (h1:1≤first) (hk:first<rs.length+2) (h:∀o∈sem rs first,o.length=many) (hw:walk j rs (first:Int) (aE 2)=aE (rs.length+2)) :
  lay many (sem rs first) []=(first,rs):=by
 have:=su wf th nd many j 0 rs.length first hj h1 hk (Nat.zero_le _) (Nat.le_refl _) h hw
 rwa[List.take_zero,List.take_length] at this
theorem qA {rs:List Room}(wf:WF rs) (mk:MOk rs):∀(n k:Nat),k≤n->1≤k->k<rs.length+2->∀o∈sem rs k,o.Nodup∧∀x,x∈o↔0≤x∧(msk rs k).testBit x.toNat=true
 | 0,k,h,h1,_=>by omega
 | n+1,k,h,h1,hk=>by
  by_cases c:k=1
  ·subst c
   intro o ho
   rw[cW] at ho
   rw[List.mem_singleton.mp ho,sf]
   refine⟨List.nodup_nil,fun x=>⟨(fun h=>nomatch h),fun h=>?_⟩⟩
   rw[Nat.zero_testBit] at h
   cases h.2
  ·obtain⟨r,e,ok,es⟩:=dh wf (show 2≤k by omega) hk
   intro o ho
   rw[es] at ho
   obtain⟨d,hd,ho⟩:=List.mem_flatMap.mp ho
   obtain⟨o',ho',rfl⟩:=List.mem_map.mp ho
   have ah:=ok.ahead d hd
   obtain⟨m1,m2,m3,m4⟩:=mk _ _ e d hd
   obtain⟨q1,q2⟩:=qA wf mk n d.2.toNat (by omega) (by omega) (by omega) o' ho'
   rw[show k-2+2=k by omega] at m4
   have hn:d.1∉o':=fun z=>by
    have:=((q2 d.1).mp z).2
    rw[m3] at this
    cases this
   refine⟨List.nodup_cons.mpr ⟨hn,q1⟩,fun x=>?_⟩
   rw[←m4,List.mem_cons,q2 x,Nat.testBit_or,Nat.testBit_two_pow]
   constructor
   ·rintro(rfl|⟨x0,xb⟩)
    ·exact⟨m1,by simp⟩
    ·exact⟨x0,by rw[xb];simp⟩
   ·rintro⟨x0,xb⟩
    rcases Bool.or_eq_true_iff.mp xb with xb|xb
    ·have:=of_decide_eq_true xb
     exact .inl (by omega)
    ·exact .inr ⟨x0,xb⟩
theorem sv {rs:List Room}(wf:WF rs) (mk:MOk rs) {many k:Nat}(h1:1≤k) (hk:k<rs.length+2) (hm:msk rs k=2 ^ many-1):∀o∈sem rs k,o.Perm (aE many):=fun o ho=>by
 obtain⟨q1,q2⟩:=qA wf mk k k (Nat.le_refl _) h1 hk o ho
 refine(List.perm_ext_iff_of_nodup q1 (iD _)).mpr fun x=>?_
 rw[q2 x,hm,bD,Nat.testBit_two_pow_sub_one]
 constructor
 ·rintro⟨a,b⟩
  have:=of_decide_eq_true b
  exact⟨a,by omega⟩
 ·rintro⟨a,b⟩
  exact⟨a,by simp;omega⟩
end Bk
namespace L2
open PySem PySem.Spec PyProof.Rows
theorem tY {t m:Nat}(h:m.testBit t=true):2 ^ t &&& m=2 ^ t:=by
 refine Nat.eq_of_testBit_eq fun i=>?_
 rw[Nat.testBit_and,Nat.testBit_two_pow]
 by_cases e:t=i
 ·subst e;rw[h];simp
 ·simp[e]
end L2
namespace Ord
open PySem L2 Mx
section
variable {P:Program}{w:World}{K:W.Frag}{mg:Str->Option Value}{base:Heap}{CO CB:Addr}
def lS (K:W.Frag) (CB:Addr):Sp:=fun vs H Q E=>∃(x:V) (l:Addr) (ms:List Nat) (d:Int×Int),vs=[x,.ref l]∧cA K H x d∧SqL K H l (eJ ms)∧0≤d.1∧d.1<8∧0≤d.2∧d.2<ms.length∧
 ((ms.getD d.2.toNat 0).testBit d.1.toNat=false->Q (.int ((Bk.bW ms d:Nat):Int)) H)∧((ms.getD d.2.toNat 0).testBit d.1.toNat=true->E (.ref CB) none H)
theorem rz {f:Addr}{fd:FuncData}(F:Fun K "things_through" "things_through" kR f fd) (BB:OwnX K mg "BadBook" CB):FnOk P w K mg base (CX1 P w) 1 f fd ["door","things"] (lS K CB):=by
 refine F.okX jy (fun vs H Q E h=>?_) (fun X cdv A outer s H vs Q E hX hp hra hr h=>?_)
 ·obtain⟨x,l,ms,d,rfl,_⟩:=h
  rfl
 obtain⟨x,l,ms,⟨t,k⟩,rfl,⟨p,rfl,q⟩,hl,t0,t8,k0,kl,zg,zb⟩:=h
 subst hX
 refine⟨_,ai (aI (i:=2) jy.nd rfl (Or.inl rfl) (aw uF ak (aU (show IxR _ (bZ K) from bv) (pv 0) ak (fun _ _=>rfl))))
  (ai (aI (i:=3) jy.nd rfl (Or.inl rfl) (aU (show IxR _ (dA K) from bI) (pv 1) (aU (show IxR _ (bZ K) from bv) (pv 0) ak (fun _ _=>rfl)) (fun _ _=>rfl)))
  (ai (aK (oO (aw Ah (pv 2) (pv 3)) (fun _=>rfl)) (am (bV rfl rfl BB hra (ac bJ ae))) ax)
  (am (aH (aw Ds (pv 2) (pv 3)))))),?_⟩
 refine⟨_,rfl,p,_,0,.int t,rfl,rfl,q,gP,1,t,rfl,rfl,⟨t0,by omega,by decide⟩,?_⟩
 refine⟨_,rfl,_,rfl,p,_,1,.int k,rfl,rfl,q,iP,l,_,k,.int ((ms.getD k.toNat 0:Nat):Int),rfl,rfl,hl,?_,?_⟩
 ·have hk:k.toNat<ms.length:=by show k.toNat<ms.length;have:k<ms.length:=kl;have:0≤k:=k0;omega
  have:=qh hk
  rw[show((k.toNat:Nat):Int)=k from Int.toNat_of_nonneg k0] at this
  exact this
 have e1:(1:Int)*2 ^ t.toNat=((2 ^ t.toNat:Nat):Int):=by simp
 refine⟨_,rfl,_,rfl,_,_,rfl,rfl,_,rfl,?_⟩
 by_cases hb:(ms.getD k.toNat 0).testBit t.toNat=true
 ·rw[e1,lN,tY hb]
  have e2:(((2 ^ t.toNat:Nat):Int) != 0)=true:=by
   have:0<2 ^ t.toNat:=Nat.two_pow_pos _
   exact bne_iff_ne.mpr (by omega)
  rw[e2]
  exact aJ ⟨by show 1≤sizeLine;decide,zb hb⟩
 have hb:(ms.getD k.toNat 0).testBit t.toNat=false:=Bool.eq_false_iff.mpr hb
 rw[e1,lN,tR hb]
 refine aM ?_
 refine⟨_,rfl,_,rfl,_,_,rfl,rfl,?_⟩
 show Q (V.int (Builtin.bitOr (1*2 ^ t.toNat) ((ms.getD k.toNat 0:Nat):Int))) H
 rw[e1,vD]
 exact zg hb
def j2 (many:Nat) (ms:List Nat) (first:Int):Prop:=first=0∨(1<first∧first<ms.length∧ms.getD first.toNat 0=2 ^ many-1)
def qB (K:W.Frag) (CB:Addr):Sp:=fun vs H Q E=>∃(many:Nat) (first:Int) (l:Addr) (ms:List Nat),vs=[.int many,.ref l,.int first]∧SqL K H l (eJ ms)∧many≤8∧(j2 many ms first->Q .non H)∧(¬j2 many ms first->E (.ref CB) none H)
theorem vH {f:Addr}{fd:FuncData}(F:Fun K "look_first" "look_first" qe f fd) (T:TxB K mg CO) (BB:OwnX K mg "BadBook" CB):FnOk P w K mg base (CX1 P w) 1 f fd ["many","things","first"] (qB K CB):=by
 refine F.okX zC (fun vs H Q E h=>?_) (fun X cdv A outer s H vs Q E hX hp hra hr h=>?_)
 ·obtain⟨many,first,l,ms,rfl,_⟩:=h
  rfl
 obtain⟨many,first,l,ms,rfl,ql,m8,zg,zb⟩:=h
 subst hX
 obtain⟨t0,m0⟩:=T.no
 obtain⟨t1,m1⟩:=T.en
 refine⟨_,ai (aK (aD cb (pv 2) (bH (v:=.int 0) rfl m0 ⟨t0,rfl⟩) (aG _)) (am mj) ax)
  (ai (aK (cq (fq fX fX (bH (v:=.int 1) rfl m1 ⟨t1,rfl⟩) (pv 2) (aB aR rfl T.t.len cp (ac (pv 1) ae)))) (am (bV rfl rfl BB hra (ac bJ ae))) ax)
  (am (aK (aD gB (aU (show IxR _ (dA K) from bI) (pv 1) (pv 2) (fun _ _=>rfl)) (aw jf (aw uF ak (pv 0)) ak) (aG _)) (am (bV rfl rfl BB hra (ac bJ ae))) ax))),?_⟩
 refine⟨_,rfl,rfl,_,rfl,?_⟩
 by_cases c:first=0
 ·subst c
  exact aJ (zg (.inl rfl))
 rw[decide_eq_false (fun h=>c (by have:=V.int.inj h;omega))]
 refine aM ?_
 refine⟨_,rfl,1,first,rfl,rfl,_,rfl,?_⟩
 have hl:(eJ ms).length=ms.length:=List.length_map _
 by_cases c1:1<first
 case neg=>
  rw[decide_eq_false c1]
  exact aM ⟨_,rfl,aJ ⟨by show 1≤sizeLine;decide,zb fun h=>h.elim c fun h=>c1 h.1⟩⟩
 rw[decide_eq_true c1]
 refine aJ ⟨_,rfl,l,_,rfl,.inl ql,first,_,rfl,rfl,_,rfl,?_⟩
 rw[hl]
 by_cases c2:first<(ms.length:Nat)
 case neg=>
  rw[decide_eq_false c2]
  exact aJ ⟨by show 1≤sizeLine;decide,zb fun h=>h.elim c fun h=>c2 h.2.1⟩
 rw[decide_eq_true c2]
 refine aM ?_
 have f2:first.toNat<ms.length:=by omega
 have fe:((first.toNat:Nat):Int)=first:=Int.toNat_of_nonneg (by omega)
 refine⟨_,rfl,_,rfl,l,_,first,_,rfl,rfl,ql,by have:=qh f2;rw[fe] at this;exact this,?_⟩
 refine⟨_,rfl,1,(many:Int),rfl,rfl,⟨by omega,by omega,by decide⟩,_,1,rfl,rfl,rfl,_,rfl,?_⟩
 have e1:(1:Int)*2 ^ ((many:Int)).toNat-1=((2 ^ many-1:Nat):Int):=by
  rw[Int.toNat_natCast,Int.one_mul,Int.natCast_sub (Nat.one_le_two_pow)]
  simp
 show(fun(b:Bool) (H1:Hp)=>if b=true then _ else _) (!decide (V.int ((ms.getD first.toNat 0:Nat):Int)=V.int (1*2 ^ ((many:Int)).toNat-1))) H
 rw[e1]
 by_cases c3:ms.getD first.toNat 0=2 ^ many-1
 ·rw[c3,decide_eq_true rfl]
  exact aM (zg (.inr ⟨c1,c2,c3⟩))
 ·rw[decide_eq_false fun h=>c3 (by have:=V.int.inj h;exact Int.ofNat.inj this)]
  exact aJ ⟨by show 1≤sizeLine;decide,zb fun h=>h.elim c fun h=>c3 h.2.2⟩
def qC (K:W.Frag) (CB:Addr):Sp:=fun vs H Q E=>∃(x:V) (many:Int) (rs:List Bk.Room) (first:Int),vs=[x]∧BookA K H x many rs first∧((1≤many∧many≤8)->Q .non H)∧(¬(1≤many∧many≤8)->E (.ref CB) none H)
theorem vI {f:Addr}{fd:FuncData}(F:Fun K "look_parts" "look_parts" qf f fd) (T:TxB K mg CO) (BB:OwnX K mg "BadBook" CB) (W:Df P w K mg base CX0 1 "is_whole" ["value"] hV) (WC:Df P w K mg base CX0 2 "is_count" ["many"] my):FnOk P w K mg base (CX1 P w) 3 f fd ["book"] (qC K CB):=by
 refine F.okX zB (fun vs H Q E h=>?_) (fun X cdv A outer s H vs Q E hX hp hra hr h=>?_)
 ·obtain⟨x,many,rs,first,rfl,_⟩:=h
  rfl
 obtain⟨x,many,rs,first,rfl,⟨b,l,xs,rfl,q,ql,pr⟩,zg,zb⟩:=h
 subst hX
 refine⟨_,ai (aK (PW.pt (fW (cq (dg (aB bQ rfl T.t.isi cY (ac (pv 0) (ac (eT (v:=.ty "tuple") rfl T.t.tuple eV rfl) ae)))))
    (eZ (aD gB (aB aR rfl T.t.len cp (ac (pv 0) ae)) ak (aG _))))) (am aL) ax)
  (ai (aK (cq (dg (aS WC hr rfl (bg (E:=fun _ _ _ _=>False)) (ac (aU (show IxR _ (bZ K) from bv) (pv 0) ak (fun _ _=>rfl)) ae)))) (am (bV rfl rfl BB hra (ac bJ ae))) ax)
  (ai (aK (cq (dg (aB bQ rfl T.t.isi cY (ac (aU (show IxR _ (bZ K) from bv) (pv 0) ak (fun _ _=>rfl)) (ac (eT (v:=.ty "list") rfl T.t.list gu rfl) ae))))) (am aL) ax)
  (am (aK (cq (dg (aS W (hr.mono (by decide)) rfl (bg (E:=fun _ _ _ _=>False)) (ac (aU (show IxR _ (bZ K) from bv) (pv 0) ak (fun _ _=>rfl)) ae)))) (am aL) ax)))),?_⟩
 refine⟨_,rfl,_,_,_,_,_,rfl,rfl,.tup q,ly,_,rfl,aM ?_⟩
 refine⟨_,rfl,b,_,rfl,.inr q,rfl,_,rfl,aM ?_⟩
 refine⟨_,rfl,b,_,0,.int many,rfl,rfl,q,gP,many,rfl,_,rfl,?_⟩
 by_cases c:1≤many∧many≤8
 case neg=>
  rw[decide_eq_false c]
  exact aJ ⟨by show 1≤sizeLine;decide,zb c⟩
 rw[decide_eq_true c]
 refine aM ?_
 refine⟨_,rfl,b,_,1,.ref l,rfl,rfl,q,iP,_,_,_,_,_,rfl,rfl,.lst ql,Az,_,rfl,aM ?_⟩
 exact⟨_,rfl,b,_,2,.int first,rfl,rfl,q,tS,first,rfl,_,rfl,aM (zg c)⟩
def fT (l:Bk.Room):Int:=match l.getLast? with
 | some d=>d.1
 | none=>-1
structure DOk (many number:Int) (l:Bk.Room):Prop where
 rise:(l.map (·.1)).Pairwise (· < ·)
 all:∀d∈l,0≤d.1∧d.1<many∧1≤d.2∧d.2<number
theorem gQ (l:Bk.Room) (d:Int×Int):fT (l++[d])=d.1:=by simp[fT]
theorem DOk.last {many number:Int}{l:Bk.Room}(D:DOk many number l):-1≤fT l∧∀d∈l,d.1≤fT l:=by
 rcases List.eq_nil_or_concat l with rfl|⟨l',e,rfl⟩
 ·exact⟨Int.le_refl _,fun d hd=>nomatch hd⟩
 ·rw[List.concat_eq_append,gQ]
  have:=(D.all e (by simp)).1
  refine⟨by omega,fun d hd=>?_⟩
  have r:=D.rise
  rw[List.concat_eq_append,List.map_append,List.pairwise_append] at r
  rcases List.mem_append.mp hd with h|h
  ·exact Int.le_of_lt (r.2.2 d.1 (List.mem_map.mpr ⟨d,h,rfl⟩) e.1 (by simp))
  ·rw[List.mem_singleton.mp h];exact Int.le_refl _
theorem DOk.snoc {many number:Int}{l:Bk.Room}{d:Int×Int}:DOk many number (l++[d])↔DOk many number l∧(fT l<d.1∧d.1<many)∧1≤d.2∧d.2<number:=by
 constructor
 ·rintro⟨r,a⟩
  rw[List.map_append,List.pairwise_append] at r
  have D:DOk many number l:=⟨r.1,fun e he=>a e (List.mem_append_left _ he)⟩
  have ad:=a d (by simp)
  refine⟨D,⟨?_,ad.2.1⟩,ad.2.2⟩
  rcases List.eq_nil_or_concat l with rfl|⟨l',e,rfl⟩
  ·show(-1:Int)<d.1
   omega
  ·rw[List.concat_eq_append,gQ]
   exact r.2.2 e.1 (List.mem_map.mpr ⟨e,by simp,rfl⟩) d.1 (by simp)
 ·rintro⟨D,⟨h1,h2⟩,h3⟩
  obtain⟨g1,g2⟩:=D.last
  refine⟨?_,fun e he=>?_⟩
  ·rw[List.map_append,List.pairwise_append]
   refine⟨D.rise,List.pairwise_singleton _ _,fun a ha b hb=>?_⟩
   obtain⟨e,he,rfl⟩:=List.mem_map.mp ha
   have:b=d.1:=by simpa using hb
   rw[this]
   exact Int.lt_of_le_of_lt (g2 e he) h1
  ·rcases List.mem_append.mp he with h|h
   ·exact D.all e h
   ·rw[List.mem_singleton.mp h]
    exact⟨by omega,h2,h3⟩
theorem DOk.take {many number:Int}{l:Bk.Room}(D:DOk many number l) (i:Nat):DOk many number (l.take i):=⟨by rw[List.map_take];exact D.rise.sublist (List.take_sublist _ _),fun d hd=>D.all d (List.mem_of_mem_take hd)⟩
def qD (K:W.Frag) (CB:Addr):Sp:=fun vs H Q E=>∃(many number:Int) (x:V) (r:Bk.Room),vs=[.int many,x,.int number]∧aV K H x r∧Fit number∧((r≠[]∧DOk many number r)->Q .non H)∧(¬(r≠[]∧DOk many number r)->E (.ref CB) none H)
theorem vJ {f:Addr}{fd:FuncData}(F:Fun K "look_doors" "look_doors" qc f fd) (T:TxB K mg CO) (BB:OwnX K mg "BadBook" CB) (WD:Df P w K mg base CX0 2 "is_door" ["door"] (sg K)):FnOk P w K mg base (CX1 P w) 3 f fd ["many","room","number"] (qD K CB):=by
 refine F.okX jZ (fun vs H Q E h=>?_) (fun X cdv A outer s H vs Q E hX hp hra hr h=>?_)
 ·obtain⟨many,number,x,r,rfl,_⟩:=h
  rfl
 obtain⟨many,number,x,r,rfl,⟨a,xs,rfl,q,pr⟩,fit,zg,zb⟩:=h
 subst hX
 obtain⟨t1,m1⟩:=T.en
 refine⟨_,ai (aK (PW.pt (fW (cq (dg (aB bQ rfl T.t.isi cY (ac (pv 1) (ac (eT (v:=.ty "tuple") rfl T.t.tuple eV rfl) ae)))))
    (eZ (aD cb (aB aR rfl T.t.len cp (ac (pv 1) ae)) ak (aG _))))) (am (bV rfl rfl BB hra (ac (fz (bw (cJ (k:=100) (by decide)) (bw (hJ (pv 2)) (bw (cJ (k:=100) (by decide)) gq))) (by decide)) ae))) ax)
  (ai (aI (i:=3) jZ.nd rfl (Or.inl rfl) (sP oM ak))
  (am (dz (show PassesOwn _ _ _ _ from PassesOwn.leaving) rfl (gW (pv 1)) (bA (i:=4) jZ.nd rfl (Or.inl rfl))
   (ai (aK (cq (dg (aS WD hr rfl (bg (E:=fun _ _ _ _=>False)) (ac (pv 4) ae)))) (am aL) ax)
   (ai (aK (cq (fq fX fX (pv 3) (aU (show IxR _ (bZ K) from bv) (pv 4) ak (fun _ _=>rfl)) (pv 0))) (am (bV rfl rfl BB hra (ac (fz (bw (cJ (k:=100) (by decide)) (bw (hJ (pv 2)) (bw (cJ (k:=100) (by decide)) gq))) (by decide)) ae))) ax)
   (ai (aK (cq (fq iy fX (bH (v:=.int 1) rfl m1 ⟨t1,rfl⟩) (aU (show IxR _ (bZ K) from bv) (pv 4) ak (fun _ _=>rfl)) (pv 2))) (am (bV rfl rfl BB hra (ac (fz (bw (cJ (k:=100) (by decide)) (bw (hJ (pv 2)) (bw (cJ (k:=100) (by decide)) gq))) (by decide)) ae))) ax)
   (am (aI (i:=3) jZ.nd rfl (Or.inl rfl) (aU (show IxR _ (bZ K) from bv) (pv 4) ak (fun _ _=>rfl)))))))))),?_⟩
 have msg:∀σ:St,σ[2]?=some (some (.int number))->¬(r≠[]∧DOk many number r)->(True∧isI (sK 2) σ H∧True∧True)∧∀x:Str,1≤sizeLine∧E (.ref CB) none H:=fun σ hσ h=>⟨⟨trivial,⟨_,hσ,rfl,number,rfl,fit⟩,trivial,trivial⟩,fun _=>⟨by decide,zb h⟩⟩
 refine⟨_,rfl,_,_,_,_,_,rfl,rfl,.tup q,ly,_,rfl,aM ?_⟩
 have hlen:=pr.length
 refine⟨_,rfl,a,_,rfl,.inr q,rfl,_,rfl,?_⟩
 by_cases ne:r=[]
 ·have h0:xs.length=0:=by rw[hlen,ne];rfl
  rw[h0,decide_eq_true (show V.int ((0:Nat):Int)=V.int 0 from rfl)]
  exact aJ (msg _ rfl fun h=>h.1 ne)
 have hpos:0<xs.length:=by rw[hlen];exact List.length_pos_iff.mpr ne
 rw[decide_eq_false (fun h=>by have:=V.int.inj h;omega)]
 refine aM ?_
 refine⟨1,rfl,?_⟩
 refine⟨_,rfl,a,rfl,⟨_,q⟩,jO (K:=K) (a:=a) (xs:=xs) (fun i σ H2=>∃(v4:Option V),σ=[some (.int many),some (.ref a),some (.int number),some (.int (fT (r.take i))),v4]∧H2=H∧DOk many number (r.take i)) ⟨none,rfl,rfl,List.Pairwise.nil,fun d hd=>nomatch hd⟩ ?_ ?_ ?_⟩
 ·rintro i σ H2 _ ⟨v4,rfl,rfl,_⟩
  exact q
 ·rintro i y σ H2 hx ⟨v4,rfl,rfl,D⟩
  obtain⟨⟨dt,dk⟩,hd,p,rfl,qd⟩:=cw pr hx
  have et:=bG hd
  have bad:¬((fT (r.take i)<dt∧dt<many)∧1≤dk∧dk<number)->¬(r≠[]∧DOk many number r):=fun h g=>by
   have:=g.2.take (i+1)
   rw[et,DOk.snoc] at this
   exact h this.2
  refine⟨_,rfl,.ref p,(dt,dk),rfl,⟨p,rfl,qd⟩,_,rfl,aM ?_⟩
  refine⟨_,rfl,_,rfl,p,_,0,.int dt,rfl,rfl,qd,gP,_,dt,rfl,rfl,_,rfl,?_⟩
  by_cases c1:fT (r.take i)<dt
  case neg=>
   rw[decide_eq_false c1]
   exact aM ⟨_,rfl,aJ (msg _ rfl (bad fun h=>c1 h.1.1))⟩
  rw[decide_eq_true c1]
  refine aJ ⟨_,rfl,dt,many,rfl,rfl,_,rfl,?_⟩
  by_cases c2:dt<many
  case neg=>
   rw[decide_eq_false c2]
   exact aJ (msg _ rfl (bad fun h=>c2 h.1.2))
  rw[decide_eq_true c2]
  refine aM ?_
  refine⟨_,rfl,p,_,1,.int dk,rfl,rfl,qd,iP,1,dk,rfl,rfl,_,rfl,?_⟩
  by_cases c3:1≤dk
  case neg=>
   rw[decide_eq_false c3]
   exact aM ⟨_,rfl,aJ (msg _ rfl (bad fun h=>c3 h.2.1))⟩
  rw[decide_eq_true c3]
  refine aJ ⟨_,rfl,dk,number,rfl,rfl,_,rfl,?_⟩
  by_cases c4:dk<number
  case neg=>
   rw[decide_eq_false c4]
   exact aJ (msg _ rfl (bad fun h=>c4 h.2.2))
  rw[decide_eq_true c4]
  refine aM ?_
  refine⟨_,rfl,p,_,0,.int dt,rfl,rfl,qd,gP,some (.ref p),?_,rfl,?_⟩
  ·rw[et,gQ]
   rfl
  ·rw[et]
   exact DOk.snoc.mpr ⟨D,⟨c1,c2⟩,c3,c4⟩
 ·rintro σ H2 ⟨v4,rfl,rfl,D⟩
  rw[hlen,List.take_length] at D
  exact zg ⟨ne,D⟩
end
end Ord
namespace L2
open PySem PySem.Spec PyProof.Rows
section
variable {M:Model}{A:Around}{E:Value->Shared->Prop}{s:Shared}
theorem vK {base:Heap}{env:Env}{outer:List Env}{L e:Addr}{cls a0 fl:Value}{Q:Unit->Shared->Prop}(fr:A.frames=some (env::outer)) (ff:s.heap.FunFrames base (env::outer)) (hf:env.frame=some L)
  (tr:s.heap.TracedAtW base e cls a0 fl) (kb:base.StaysIn s.heap) (en:base.get? e=none) (k:∀h',Heap.LeftW base (env::outer) e cls a0 s.heap h'->Q () { s with heap:=h' }):wpAny M A (leaving env (.ref e)) Q E s:=by
 by_cases c:fl=rawInt L
 ·subst c
  unfold leaving
  refine wpAny_bind (wpAny_noteFrame_againW hf tr ?_)
  exact wpAny_setFlight_noneW kb ff tr fun h' k1 k2 k3 k4=>k h' ⟨k1,k2,k3,fun b o hb hn=>⟨o.slots,k4 b o hb hn⟩⟩
 ·obtain⟨oe,vs,T,oT,ts,ge,⟨rfl,g0⟩,gd,g1,nT,Te,gT,gdT,g3⟩:=tr
  have oth:∀b,b≠T->(s.heap.update T (Obj.mapFields (·.setIfInBounds 3 Value.none))).get? b=s.heap.get? b:=fun b z=>Heap.get?_update_other _ _ (Ne.symm z)
  have nr:∀b o,s.heap.get? b=some o->(∀vs,o.data≠.fields vs)->b≠T:=fun b o hb n q=>by
   subst q
   rw[gT] at hb
   cases hb
   exact n ts gdT
  unfold leaving noteFrame
  simp only[hf]
  refine wpAny_bind (wpAny_bind (wpAny_field ge gd g1 ?_))
  rw[if_pos (by simp)]
  refine wpAny_bind (wpAny_field gT gdT g3 ?_)
  rw[if_neg (by simpa using c)]
  refine wpAny_bind (wpAny_setField gT gdT (Array.getElem?_eq_some_iff.mp g3).1 ?_)
  exact wpAny_newEntryW fr (ff.of_keeps fun b o hb n=>⟨o,(oth b (nr b o hb n)).trans hb,rfl⟩) hf ((oth e (Ne.symm Te)).trans ge)
   (fun b o z=>(oth b (by rintro rfl;rw[nT] at z;cases z)).trans (kb b o z)) en gd (Array.getElem?_eq_some_iff.mp g1).1 g0
   fun h' ⟨x1,x2,x3,x4⟩=>k h' ⟨x1,x2,x3,fun b o hb n=>x4 b o ((oth b (nr b o hb n)).trans hb) n⟩
end
section
variable {X:Cx}{aa:List (Addr×Obj)}{σ:St}{H₂:Hp}{s₂:Shared}{fp:List Addr}{C:Addr}{scope:Scope}{cl:List (Str×Addr)}{x:Str}
theorem nP {h'':Heap}{s':Shared}{H':Hp}{σ':St}{pn:List (Addr×Obj)}(I:Inv X aa σ H₂ s₂) (hfp:∀b∈fp,fh X aa H₂ b) (hC:s₂.heap.objs.size≤C)
  (J:Inv (cxC X scope cl x C s₂ H₂ fp aa) pn σ' H' s') (hs:Heap.SameBut C s'.heap h''):Inv X aa σ H' { s' with heap:=h'' }:=by
 have kp:∀b,b≠C->h''.get? b=s'.heap.get? b:=fun b hb=>hs.2 b hb
 have neC:∀b o,s₂.heap.get? b=some o->b≠C:=fun b o e=>Nat.ne_of_lt (Nat.lt_of_lt_of_le (Heap.lt_size e) hC)
 have trC:∀b u,H' b=some u->b≠C:=fun b u e z=>by
  have f:H' C=none:=J.free
  rw[z,f] at e;cases e
 have un:=J.base
 refine I.call' (ch:=fp) J.os ⟨fun b o e m hb hx=>?_,fun b o e m hb hx=>?_,fun b o e m hx=>un.free b o e m hx,fun b o e hx=>?_,fun b xs e=>un.tups b xs e,fun b o u e=>un.frzs b o u e,fun b ps e=>un.tbls b ps e⟩ ?_ J.bare (fun b hb=>?_)
 ·exact(kp b (neC b o e)).trans (un.keep b o e m hb hx)
 ·obtain⟨sl,q⟩:=un.slot b o e m hb hx
  exact⟨sl,(kp b (neC b o e)).trans q⟩
 ·obtain⟨o',q⟩:=un.there b o e hx
  exact⟨o',(kp b (neC b o e)).trans q⟩
 ·intro a o e
  refine(J.hok a o e).stay (fun b u hb q=>(kp b ?_).trans q) (fun b q=>q) fun b xs q=>q
  rcases hb with z|z
  ·rw[z];exact trC a o e
  ·exact trC b _ z
 ·obtain⟨_,h2,_,h4,h5,h6⟩:=hfp b hb
  exact⟨h4,h2,h5,h6⟩
end
def xeC (X:Cx) (C:Addr):Value->Shared->Prop:=notedBy (model X.prog X.w) X.A X.env fun e s'=>∃m,s'.heap.Ns C m∧∀h',Heap.SameBut C s'.heap h'->∀cenv:Env,cenv.locals=C->
 wpAny (model X.prog X.w) X.A (PySem.passOn "comprehension.variables-let-go" e cenv:Sem Value) (fun _ _=>False) X.xe { s' with heap:=h' }
section
variable {P:Program}{w:World}{K:W.Frag}{mg:Str->Option Value}{base:Heap}{N:List Str}{qual:Str}{sc:Scope}{f:Addr}{cd:Value}{A:Around}{outer:List Env}{s₁:Shared}{H₁:Hp}{E:XK}
 {aa:List (Addr×Obj)}{σ:St}{H₂:Hp}{s₂:Shared}{fp:List Addr}{C:Addr}{scope:Scope}{cl:List (Str×Addr)}{x:Str}
theorem vL (I2:Inv (cQ (CX1 P w) P w K mg base N qual sc f cd A outer s₁ H₁ E) aa σ H₂ s₂) (f2:∀b∈fp,fh (cQ (CX1 P w) P w K mg base N qual sc f cd A outer s₁ H₁ E) aa H₂ b) (hC:s₂.heap.objs.size≤C) :
  cI (CX1 P w) ((cxC (cQ (CX1 P w) P w K mg base N qual sc f cd A outer s₁ H₁ E) scope cl x C s₂ H₂ fp aa).wish (xeC (cQ (CX1 P w) P w K mg base N qual sc f cd A outer s₁ H₁ E) C)) (fun _=>E):=by
 generalize hX:cQ (CX1 P w) P w K mg base N qual sc f cd A outer s₁ H₁ E=X at I2 f2
 intro pinsY σY H s e s' J0 hx
 have hex:X.ex=[]:=by rw[←hX];rfl
 have hso:X.stack=X.env::X.outer:=by rw[←hX];rfl
 have hfr:X.env.frame=some X.env.locals:=by rw[←hX];rfl
 have hpr:X.prog=P:=by rw[←hX];rfl
 have hw:X.w=w:=by rw[←hX];rfl
 have J:=J0.unwish
 obtain⟨ea,cls,H',rfl,ho,hg,un,hok,fl,q⟩:=hx
 have hok':HOk X.prog X.w H' s'.heap:=by rw[hpr,hw];exact hok
 have J':=J.call' (ch:=[]) ho un hok' hg (fun b z=>absurd z (by simp))
 obtain⟨T,trc,hT0,hTH⟩:=fl.tr
 have hCn:H' C=none:=J'.free
 obtain⟨mC,hmC,_⟩:=J'.loc
 obtain⟨mC0,hmC0,_⟩:=J.loc
 have Is:Inv X aa σ H s:=nP I2 f2 hC J (Heap.SameBut.refl _ _)
 have I':Inv X aa σ H' s':=nP I2 f2 hC J' (Heap.SameBut.refl _ _)
 have noex:∀b,b∉X.ex:=fun b z=>by rw[hex] at z;exact absurd z (by simp)
 have apart:∀b,s.heap.get? b=none->X.s₀.heap.get? b=none∧b≠X.env.locals∧(∀y c,X.env.cells.lookup y=some c->c≠b)∧∀p∈X.pn++aa,p.1≠b:=fun b hb=>by
  refine⟨?_,?_,fun y c hy z=>?_,fun p hp z=>?_⟩
  ·cases e1:X.s₀.heap.get? b with
   | none=>rfl
   | some o=>
    obtain⟨o',e2⟩:=Is.base.there b o e1 (noex b)
    rw[hb] at e2
    cases e2
  ·rintro rfl
   obtain⟨m,⟨o,_,_,e2,_⟩,_⟩:=Is.loc
   rw[hb] at e2
   cases e2
  ·obtain⟨v,o,e2,_⟩:=Is.cell y c hy
   rw[z,hb] at e2
   cases e2
  ·have e2:=(Is.pin p hp).1
   rw[z,hb] at e2
   cases e2
 have apC:X.s₀.heap.get? C=none∧C≠X.env.locals∧(∀y c,X.env.cells.lookup y=some c->c≠C)∧∀p∈X.pn++aa,p.1≠C:=by
  refine⟨?_,Nat.ne_of_gt (Nat.lt_of_lt_of_le I2.lt hC),fun y c hy=>?_,fun p hp=>?_⟩
  ·cases e1:X.s₀.heap.get? C with
   | none=>rfl
   | some o=>exact absurd (Nat.lt_of_lt_of_le (Heap.lt_size e1) (Nat.le_trans I2.sz hC)) (Nat.lt_irrefl _)
  ·obtain⟨v,z⟩:=I2.cell y c hy
   exact Nat.ne_of_lt (Nat.lt_of_lt_of_le z.lt hC)
  ·exact Nat.ne_of_lt (Nat.lt_of_lt_of_le (Heap.lt_size (I2.pin p hp).1) hC)
 have neC:∀b,s.heap.get? b=none->b≠C:=fun b hb z=>by
  obtain⟨o,_,_,e2,_⟩:=hmC0
  have e3:s.heap.get? C=some o:=e2
  rw[←z,hb] at e3
  cases e3
 have hch:∀b∈[ea,T,C],X.s₀.heap.get? b=none∧b≠X.env.locals∧(∀y c,X.env.cells.lookup y=some c->c≠b)∧∀p∈X.pn++aa,p.1≠b:=fun b hb=>by
  rcases List.mem_cons.mp hb with z|hb
  ·rw[z];exact apart ea fl.new
  rcases List.mem_cons.mp hb with z|hb
  ·rw[z];exact apart T hT0
  ·rw[List.mem_singleton.mp hb];exact apC
 have hchH:∀b∈[ea,T,C],H' b=none:=fun b hb=>by
  rcases List.mem_cons.mp hb with z|hb
  ·rw[z];exact fl.free
  rcases List.mem_cons.mp hb with z|hb
  ·rw[z];exact hTH
  ·rw[List.mem_singleton.mp hb];exact hCn
 have frC:∀b∈frs X.stack,b≠C:=fun b hb z=>by
  rcases List.mem_cons.mp (I2.stkSub b hb) with r|r
  ·exact apC.2.1 (z.symm.trans r)
  ·obtain⟨o,e1,_⟩:=jQ I2 hb
   exact absurd (Nat.lt_of_lt_of_le (Heap.lt_size e1) hC) (by rw[z];exact Nat.lt_irrefl _)
 have hB:∀b∈[ea,T,C],(W.hideAll s'.heap (frs X.stack++[ea,T,C])).get? b=none:=fun b hb=>W.hideAll_none _ (List.mem_append_right _ hb)
 have hst:(W.hideAll s'.heap (frs X.stack++[ea,T,C])).StaysIn s'.heap:=fun b o z=>W.of_hideAll _ z
 have hff:s'.heap.FunFrames (W.hideAll s'.heap (frs X.stack++[ea,T,C])) X.stack:=W.funFrames_hide I'.stack fun env he a ha=>List.mem_append_left _ (List.mem_filterMap.mpr ⟨env,he,ha⟩)
 obtain⟨a0,tw⟩:=trc.traced (hB T (by simp))
 show xeC X C (.ref ea) s'
 unfold xeC notedBy
 refine wpAny_noteFrame_onW (outer:=X.outer) (L:=X.env.locals) (hso▸I'.ok.frames) (hso▸hff) hfr tw hst (hB ea (by simp)) fun h4 hN4=>?_
 obtain⟨n1,n2,n3,n4⟩:=hN4
 refine⟨mC,Heap.UpToSlots.ns n4 hmC,fun h5 hs5 cenv _=>?_⟩
 obtain⟨oe,vs,T4,oT,ts,ge,gc,gd,g1,nT,Te,gT,gdT,g3⟩:=n3
 obtain⟨oC,esC,epC,eC,dC,_⟩:=Heap.UpToSlots.ns n4 hmC
 have eaC:ea≠C:=neC ea fl.new
 have T4C:T4≠C:=fun z=>by
  rw[z] at gT
  have e2:h4.get? C=some oC:=eC
  rw[gT] at e2
  cases e2
  rw[gdT] at dC
  cases dC
 have ge5:h5.get? ea=some oe:=(hs5.2 ea eaC).trans ge
 have gT5:h5.get? T4=some oT:=(hs5.2 T4 T4C).trans gT
 have sz3:3<ts.size:=(Array.getElem?_eq_some_iff.mp g3).1
 unfold PySem.passOn
 refine wpAny_bind (wpAny_field ge5 gd g1 ?_)
 rw[if_neg (by simp)]
 refine wpAny_bind ?_
 unfold setFlight
 refine wpAny_bind (wpAny_field ge5 gd g1 ?_)
 rw[if_pos (by simp)]
 refine wpAny_setField gT5 gdT sz3 ?_
 generalize hv:(cenv.frame.elim Value.none fun f=>rawInt f)=v
 generalize hh6:h5.update T4 (Obj.mapFields (·.setIfInBounds 3 v))=h6
 have oth:∀b,b≠T4->h6.get? b=h5.get? b:=fun b z=>by rw[←hh6];exact Heap.get?_update_other _ _ (Ne.symm z)
 have frT4:∀b∈frs X.stack,b≠T4:=fun b hb z=>by
  obtain⟨o,e1,nd⟩:=jQ I' hb
  obtain⟨sl,e2⟩:=n4 b o e1 nd
  rw[z,gT] at e2
  cases e2
  exact nd ts gdT
 have keep6:∀b o,b∉frs X.stack->b∉[ea,T,C]->s'.heap.get? b=some o->h6.get? b=some o:=fun b o z1 z2 e1=>by
  have hb:=W.hideAll_get _ e1 fun m=>(List.mem_append.mp m).elim z1 z2
  have nb:b≠T4:=fun z=>by rw[z,nT] at hb;cases hb
  have nc:b≠C:=fun z=>z2 (by rw[z];simp)
  exact(oth b nb).trans ((hs5.2 b nc).trans (n1 b o hb))
 have slot6:∀b o,b∈frs X.stack->s'.heap.get? b=some o->∃sl,h6.get? b=some { o with slots:=sl }:=fun b o hb e1=>by
  obtain⟨o',e2,nd⟩:=jQ I' hb
  rw[e1] at e2
  cases e2
  obtain⟨sl,e3⟩:=n4 b o e1 nd
  exact⟨sl,(oth b (frT4 b hb)).trans ((hs5.2 b (frC b hb)).trans e3)⟩
 have I6:Inv X aa σ H' { s' with heap:=h6 }:=I'.stepN (g':=s'.gens) (d':=s'.drawn) (t':=s'.toks) hch keep6 slot6 hex hso hchH I'.bare
 have nT4:H' T4=none∧X.s₀.heap.get? T4=none:=by
  by_cases z:T4∈frs X.stack++[ea,T,C]
  ·rcases List.mem_append.mp z with z|z
   ·exact absurd rfl (frT4 T4 z)
   ·exact⟨hchH T4 z,(hch T4 z).1⟩
  ·have e1:s'.heap.get? T4=none:=by
    cases e1:s'.heap.get? T4 with
    | none=>rfl
    | some o=>rw[W.hideAll_get _ e1 z] at nT;cases nT
   constructor
   ·cases e2:H' T4 with
    | none=>rfl
    | some o=>
     obtain⟨u,e3⟩:=oW (I'.hok T4 o e2)
     rw[e1] at e3
     cases e3
   ·cases e2:X.s₀.heap.get? T4 with
    | none=>rfl
    | some o=>
     obtain⟨o',e3⟩:=I'.base.there T4 o e2 (noex T4)
     rw[e1] at e3
     cases e3
 have hB6:∀b∈[ea,T4],(W.hideAll h6 (frs X.stack++[ea,T4])).get? b=none:=fun b hb=>W.hideAll_none _ (List.mem_append_right _ hb)
 have tr6:h6.TracedAtW (W.hideAll h6 (frs X.stack++[ea,T4])) ea cls a0 v:=by
  have up:h6.get? T4=some (oT.mapFields (·.setIfInBounds 3 v)):=by
   rw[←hh6]
   exact Heap.get?_update_self _ gT5 (Obj.isFreed_of_fields (Obj.data_mapFields gdT _))
  exact⟨oe,vs,T4,_,_,(oth ea (Ne.symm Te)).trans ge5,gc,gd,g1,hB6 T4 (by simp),Te,up,Obj.data_mapFields gdT _,by simp[sz3]⟩
 show wpAny _ _ (throw (Value.ref ea)) _ _ _
 refine wpAny_throw ?_
 subst hX
 refine vK (outer:=outer) (L:=s₁.heap.objs.size) I6.ok.frames (W.funFrames_hide I6.stack fun env he a ha=>List.mem_append_left _ (List.mem_filterMap.mpr ⟨env,he,ha⟩)) rfl tr6 (fun b o z=>W.of_hideAll _ z) (hB6 ea (by simp)) fun h7 hL=>?_
 obtain⟨k1,k2,k3,k4⟩:=hL
 exact mq (s:={ s' with heap:=h6 }) (l:=[ea,T4]) I6 rfl rfl
  (fun b hb=>by
   rcases List.mem_cons.mp hb with z|z
   ·rw[z];exact⟨fl.free,(hch ea (by simp)).1⟩
   ·rw[List.mem_singleton.mp z];exact nT4)
  fl.free (hch ea (by simp)).1 (fun b o z1 z2 e1=>k1 b o (W.hideAll_get _ e1 fun m=>(List.mem_append.mp m).elim z1 z2)) k4 k3 q
end
section
variable {P:Program}{w:World}{K:W.Frag}{mg:Str->Option Value}{base:Heap}{N:List Str}{qual:Str}{sc:Scope}{f:Addr}{cd:Value}{A:Around}{outer:List Env}{s₁:Shared}{H₁:Hp}{E:XK}
 {X:Cx}{scope:Scope}{x:Str}{elt iter:Expr}{ifs:List Expr}{px pos:Pos}{wi:TI}{tt:TT}{te:TE}
theorem xy {i0:Nat}{y:Str}{py spos:Pos}(hX:X=cQ (CX1 P w) P w K mg base N qual sc f cd A outer s₁ H₁ E) (hN:X.N.Nodup) (hi0:X.N[i0]?=some y) (hx:Loc X.env.scope y) (hc:X.calm=true) (S:CScope X.env.scope X.N scope x) (hi:PI X (.Name x px) iter wi)
  (ht:∀(cl:List (Str×Addr)) (C:Addr) (s₂:Shared) (H₂:Hp) (fp:List Addr) (aa:List (Addr×Obj)),PTs (cxC X scope cl x C s₂ H₂ fp aa) ifs tt)
  (he:∀(cl:List (Str×Addr)) (C:Addr) (s₂:Shared) (H₂:Hp) (fp:List Addr) (aa:List (Addr×Obj)),cI (CX1 P w) ((cxC X scope cl x C s₂ H₂ fp aa).wish (xeC X C)) (fun _=>E)->PE ((cxC X scope cl x C s₂ H₂ fp aa).wish (xeC X C)) elt te)
  (hsw:swapsWith (.ListComp elt [⟨.Name x px,iter,ifs,0⟩] scope pos) (some (.Name y py)) spos.line X.env=pure true) (hs:∀v,foldedSetIterable iter X.env v=pure v:=by intro _;rfl)
  (hf:X.fn y=true∨X.env.scope.names.lookup y=some .local :=by first|exact .inl rfl|exact .inr rfl|assumption) :
  PS X (.Assign [.Name y py] (.ListComp elt [⟨.Name x px,iter,ifs,0⟩] scope pos) spos) (sL (tu wi tt te) (om i0)):=by
 intro aa s σ H D0 I h
 obtain⟨cl,hcl0,hcl1,hcl2⟩:=iA (scope:=scope) (env:=X.env) (fun y hy hf=>I.ok.has y.1 (S.free y hy hf))
 rw[exec_Assign_Name_used _ _ _ _ hsw]
 refine wpAny_bind (wpAny_standAt (wpAny_bind ?_))
 show wpAny _ X.A (do let _ ←comprehension (.ListComp elt [⟨.Name x px,iter,ifs,0⟩] scope pos) scope X.env _ (newList []) false (eval iter X.env) (some (assign (.Name y py) X.env))) _ _ s
 refine wpAny_bind (wpAny_mono (wpAny_comprehension_free (use:=some (assign (.Name y py) X.env)) (E:=X.xe) (Q:=fun _ s'=>SP X aa D0 .next s') rfl hs hcl0 S.kind S.names
  (thn (hi aa s σ H _ I h) fun xv s1 h1=>thn h1 fun itv s2 h2=>?_)) (fun _ s' hq=>wpAny_pure (wpAny_pure hq)) fun _ _ e=>e)
 obtain⟨it,fp,tn,J,H2,e,I2,T,st2,f2,W,⟨m0,w0⟩,turn⟩:=h2
 subst e
 refine wpAny_newObj_type (wpAny_newFunctionEnv S.cell (by intro y hy;cases hy) (fun h₁ hns hsb=>?_) S.kind)
 dsimp only at hns hsb ⊢
 generalize hP:s2.heap.push { cls:=.type "list",dict:=none,data:=.seq ([]:List Value).toArray }=P2 at hns hsb ⊢
 have hC:P2.objs.size=s2.heap.objs.size+1:=by rw[←hP,Heap.size_push]
 have hDC:s2.heap.objs.size≠P2.objs.size:=by rw[hC];exact Nat.ne_of_lt (Nat.lt_succ_self _)
 have hCle:s2.heap.objs.size≤P2.objs.size:=by rw[hC];exact Nat.le_succ _
 have old:∀b o,s2.heap.get? b=some o->h₁.get? b=some o:=fun b o e=>by
  have hb:=Heap.lt_size e
  exact hsb.extBut b o (by rw[hC];exact Nat.ne_of_lt (Nat.lt_succ_of_lt hb)) (Heap.get?_push_of_some _ (hP▸Heap.get?_push_of_some _ e))
 have hd:h₁.get? s2.heap.objs.size=some (bp [] 0):=hsb.extBut _ _ hDC (Heap.get?_push_of_some _ (hP▸Heap.get?_push_size _ rfl))
 have fo:∀b∈fp,∃o,s2.heap.get? b=some o:=fun b hb=>by
  obtain⟨o,e,_⟩:=T.obj _ _ st2 b hb
  exact⟨o,e⟩
 have neD:∀b∈fp,b≠s2.heap.objs.size:=fun b hb=>by
  obtain⟨o,e⟩:=fo b hb
  exact Nat.ne_of_lt (Heap.lt_size e)
 have JY:Inv (cxC X scope cl x P2.objs.size s2 H2 fp aa) [(s2.heap.objs.size,bp [] 0)] (none::σ) H2 { s2 with heap:=h₁,toks:=s2.toks+([]:List (Str×Value)).length }:=
  jj I2 S f2 fo hcl1 hcl2 (Nat.le_refl _) hCle hDC ⟨_,hns⟩ hd old
 have stat:∀{H':Hp}{its:List Value}{n:Nat},(∀b∈fp,H' b=none)->∀b∈fp,fh (cxC X scope cl x P2.objs.size s2 H2 fp aa) [(s2.heap.objs.size,bp its n)] H' b:=fun {H' its n} hn b hb=>by
  obtain⟨_,g1,g2,g3,g4,g5⟩:=f2 b hb
  obtain⟨o,e⟩:=fo b hb
  refine⟨hn b hb,?_,fun z=>?_,.inl hb,fun y c q=>g4 y c (hcl1 y c q),fun p hp=>?_⟩
  ·show b≠P2.objs.size
   exact Nat.ne_of_lt (Nat.lt_of_lt_of_le (Heap.lt_size e) hCle)
  ·rcases List.mem_cons.mp (I2.stkSub b z) with r|r
   ·exact g1 r
   ·exact g2 r
  ·rcases List.mem_append.mp hp with z|z
   ·exact g5 p z
   ·rw[List.mem_singleton.mp z];exact fun q=>neD b hb q.symm
 have pc:cI (CX1 P w) ((cxC X scope cl x P2.objs.size s2 H2 fp aa).wish (xeC X P2.objs.size)) (fun _=>E):=by
  subst hX
  exact vL I2 f2 hCle
 have nodup:(cxC X scope cl x P2.objs.size s2 H2 fp aa).N.Nodup:=List.nodup_cons.mpr ⟨S.fresh,hN⟩
 have loc:Loc (cxC X scope cl x P2.objs.size s2 H2 fp aa).env.scope x:=.inl (lookup_relabel_local S.var)
 have loop:∀s4:Shared,s4={ s2 with heap:=h₁,toks:=s2.toks+([]:List (Str×Value)).length }->
   codeAny (model X.prog X.w) X.A (.compLoop (.ListComp elt [⟨.Name x px,iter,ifs,0⟩] scope pos) 0 (.ref it) (.ref s2.heap.objs.size) (compEnvC scope cl P2.objs.size X.env))
    (compPost (model X.prog X.w) X.A X.xe (some (assign (.Name y py) X.env)) (fun _ s'=>SP X aa D0 .next s') (.ref s2.heap.objs.size) P2.objs.size) s4:=by
  rintro s4 rfl
  refine codeAny_loop rfl (fun n s'=>∃i ys its c H' v0,Inv (cxC X scope cl x P2.objs.size s2 H2 fp aa) [(s2.heap.objs.size,bp its c)] (v0::σ) H' s'∧tn i s'.heap∧(∀b∈fp,H' b=none)∧az ys its∧W i n ys H') ?_ m0
   ⟨0,[],[],0,H2,none,JY,T.keep _ _ _ st2 (fun b _ o e=>old b o e),fun b hb=>(f2 b hb).1,.nil,w0⟩
  rintro n s3 ⟨i,ys,its,c,H3,v0,I3,st3,fr3,rv,w3⟩
  show wpAny _ _ ((compTurn (.ListComp elt [⟨.Name x px,iter,ifs,0⟩] scope pos) 0 (.ref it) (.ref s2.heap.objs.size) (compEnvC scope cl P2.objs.size X.env)).onRaise (fun z=>do noteFrame z (compEnvC scope cl P2.objs.size X.env);theTreesLotGoes z)) _ _ s3
  refine wpAny_noted ?_
  rw[compTurn_list]
  rcases turn i n ys H3 w3 with⟨stop,hz,qn⟩|⟨go,hz,NN,hNN,step⟩
  ·refine wpAny_bind (wpAny_standAt (wpAny_bind (thn (T.done (cxC X scope cl x P2.objs.size s2 H2 fp aa) rfl rfl rfl hc i _ s3 _ H3 _ I3 (stat fr3) st3 stop) fun r s5 ⟨hr,I5⟩=>?_)))
   subst hr
   refine wpAny_pure ?_
   obtain⟨mC,hmC,_⟩:=I5.loc
   obtain⟨I6,nD⟩:=kJ I2 f2 (Nat.le_refl _) hCle I5 (Heap.SameBut.refl _ _) rv hz
   have fC:H3 P2.objs.size=none:=I5.free
   have q:=qn _ nD
   have big:∀b o,s2.heap.get? b=some o->b≠P2.objs.size:=fun b o e=>Nat.ne_of_lt (Nat.lt_of_lt_of_le (Heap.lt_size e) hCle)
   have bigC:∀z c,X.env.cells.lookup z=some c->c≠P2.objs.size:=fun z c e=>by
    obtain⟨v,q⟩:=I2.cell z c e
    exact Nat.ne_of_lt (Nat.lt_of_lt_of_le q.lt hCle)
   have bigL:X.env.locals≠P2.objs.size:=Nat.ne_of_lt (Nat.lt_of_lt_of_le I2.lt hCle)
   refine wpAny_assign_Name (je (v:=.ref s2.heap.objs.size) I6 hN hi0 hx rfl (fun s7 I7 ⟨a,sb,ha⟩=>?_) hf)
   have neC:P2.objs.size≠a:=by
    rcases ha with ha|ha
    ·rw[ha];exact Ne.symm bigL
    ·exact Ne.symm (bigC _ _ ha)
   exact⟨mC,hmC.sameBut sb neC,fun h' hs'=>⟨_,_,I7.turned (t':=s7.toks) (it:=P2.objs.size) (fun b o hb e=>(hs'.2 b hb).trans e) (by rw[aq (Ne.symm hDC)];exact fC) (Ne.symm bigL) (.inr (Nat.le_trans I2.sz hCle)) bigC (fun p hp=>big _ _ (I2.pin p hp).1),q⟩⟩
  ·refine wpAny_bind (wpAny_standAt (wpAny_bind (thn (T.item (cxC X scope cl x P2.objs.size s2 H2 fp aa) rfl rfl rfl hc i _ s3 _ H3 _ I3 (stat fr3) st3 go) fun r s5 ⟨u,hr,h5⟩=>?_)))
   subst hr
   refine wpAny_bind (thn h5 fun _ s6 ⟨xv,H6,I6,r6,y6,st6,fr6⟩=>?_)
   have I6':=I6.pinned (stat fr6) (T.obj _ _ st6)
   refine wpAny_bind (wpAny_assign_Name (fg (i:=0) I6' nodup rfl loc r6 (fun s7 I7=>?_) (.inr (lookup_relabel_local S.var))))
   have q7:=step xv H6 y6
   refine wpAny_bind (dL (thn (ht cl P2.objs.size s2 H2 fp aa _ s7 _ H6 _ I7 q7) fun ok s8 ⟨H8,I8,q8⟩=>?_))
   have back:∀{H9:Hp}{s9:Shared},Inv (cxC X scope cl x P2.objs.size s2 H2 fp aa) ([(s2.heap.objs.size,bp its c)]++gm fp s6.heap) (some xv::σ) H9 s9->tn (i+1) s9.heap∧∀b∈fp,H9 b=none:=fun {H9 s9} I9=>by
    refine⟨T.keep _ _ _ st6 fun b hb o e=>(I9.pin (b,o) (List.mem_append_right _ (List.mem_append_right _ (cK hb e)))).1,fun b hb=>?_⟩
    obtain⟨o,e,d⟩:=T.obj _ _ st6 b hb
    exact(I9.pin (b,o) (List.mem_append_right _ (List.mem_append_right _ (cK hb e)))).2.1
   cases ok with
   | false=>
    obtain⟨m',hm,w8⟩:=hNN ys H8 q8
    obtain⟨t8,fr8⟩:=back I8
    exact wpAny_pure ⟨rfl,m',hm,i+1,ys,its,c,H8,_,I8.unpinned,t8,fr8,rv,w8⟩
   | true=>
    refine wpAny_bind (wpAny_bind (wpAny_mono (he cl P2.objs.size s2 H2 fp aa pc _ s8 _ H8 _ (I8.wish _) q8) (fun yv s9 ⟨y,H9,I9w,r9,q9⟩=>?_) (fun _ _ z=>z)))
    have I9:=I9w.unwish
    obtain⟨m',hm,w9⟩:=hNN _ _ q9
    obtain⟨t9,fr9⟩:=back I9
    have I9':=I9.unpinned
    obtain⟨eD,nD,neL,nf,_⟩:=I9'.pin (s2.heap.objs.size,bp its c) (List.mem_append_right _ List.mem_cons_self)
    refine wpAny_bind (wpAny_list_append_plain (items:=its.toArray) ⟨c,eD⟩ (fun h10 hp10 hs10=>?_) (by rw[List.size_toArray,←rv.length];exact Nat.le_of_lt hz))
    obtain⟨c',e10⟩:=hp10
    have e10':h10.get? s2.heap.objs.size=some (bp (its++[yv]) c'):=by rw[e10];simp
    have I10:Inv (cxC X scope cl x P2.objs.size s2 H2 fp aa) [] (some xv::σ) H9 { s9 with heap:=h10 }:=by
     have I9e:Inv (cxC X scope cl x P2.objs.size s2 H2 fp aa) [] (some xv::σ) H9 s9:=I9'.pins_of fun p hp=>absurd hp (by simp)
     refine I9e.turned (t':=s9.toks) (it:=s2.heap.objs.size) (fun b o hb q=>(hs10.2 b hb).trans q) nD neL (.inr (Nat.le_refl _)) (fun y cc q=>?_) fun p hp=>?_
     ·obtain⟨v,z⟩:=I2.cell y cc (hcl1 y cc q)
      exact Nat.ne_of_lt z.lt
     ·have hp':p∈X.pn++aa:=by
       have z:p∈(X.pn++aa)++[]:=hp
       simpa using z
      exact Nat.ne_of_lt (Heap.lt_size (I2.pin p hp').1)
    have I11:Inv (cxC X scope cl x P2.objs.size s2 H2 fp aa) [(s2.heap.objs.size,bp (its++[yv]) c')] (some xv::σ) H9 { s9 with heap:=h10 }:=
     I10.pins_of fun p hp=>by rw[List.mem_singleton.mp hp];exact⟨e10',nD,neL,nf,fun v q=>nomatch q⟩
    refine wpAny_pure (wpAny_pure ⟨rfl,m',hm,i+1,ys++[y],its++[yv],c',H9,_,I11,?_,fr9,rv.append (.cons r9 .nil),w9⟩)
    exact T.keep _ _ _ t9 fun b hb o q=>(hs10.2 b (neD b hb)).trans q
 exact codeAny_compStart_list (loop _ rfl) (T.self X.A 0 _ _ _ (T.keep _ _ _ st2 (fun b _ o e=>old b o e)) (loop _ rfl))
end
end L2
namespace Ord
open PySem L2 Mx
section
variable {P:Program}{w:World}{K:W.Frag}{mg:Str->Option Value}{base:Heap}{CO CB:Addr}
structure ROk (ms:List Nat) (r:Bk.Room):Prop where
 once:∀d∈r,(ms.getD d.2.toNat 0).testBit d.1.toNat=false
 like:∀d∈r,Bk.bW ms d=Bk.bW ms (r.headD (0,0))
def nQ (K:W.Frag) (CB:Addr):Sp:=fun vs H Q E=>∃(x:V) (r:Bk.Room) (l:Addr) (ms:List Nat),vs=[x,.ref l]∧aV K H x r∧r≠[]∧r.length≤8∧SqL K H l (eJ ms)∧
 (∀d∈r,0≤d.1∧d.1<8∧0≤d.2∧d.2<ms.length)∧(ROk ms r->∀H',au H H'->Q (.int ((Bk.bW ms (r.headD (0,0)):Nat):Int)) H')∧(¬ROk ms r->∀H',au H H'->E (.ref CB) none H')
theorem tZ {f:Addr}{fd:FuncData}(F:Fun K "things_of_room" "things_of_room" jY f fd) (T:TxB K mg CO) (BB:OwnX K mg "BadBook" CB) (WT:Df P w K mg base (CX1 P w) 1 "things_through" ["door","things"] (lS K CB)):FnOk P w K mg base (CX1 P w) 2 f fd ["room","things"] (nQ K CB):=by
 refine F.okX qi (fun vs H Q E h=>?_) (fun X cdv A outer s H vs Q E hX hp hra hr h=>?_)
 ·obtain⟨x,r,l,ms,rfl,_⟩:=h
  rfl
 obtain⟨x,r,l,ms,rfl,⟨a,xs,rfl,q,pr⟩,ne,r8,ql,all,zg,zb⟩:=h
 subst hX
 refine⟨_,ai (xy (i0:=2) rfl qi.nd rfl (Or.inl rfl) rfl (show CScope (ap jY) ["room","things","found"] _ _ from by constructor <;> decide +kernel) (gW (pv 0)) (fun _ _ _ _ _ _=>fu)
    (fun cl C s₂ H₂ fp aa hpass=>aS WT hr rfl hpass (ac (pv 0) (ac (pv 2) ae))) rfl)
  (ai (aK (aD (o0 hr.units0) (pv 2) (aw uQ (aO (ac (aU (show IxR _ (dA K) from bI) (pv 2) ak (fun _ _=>rfl)) ae)) (aB aR rfl T.t.len cp (ac (pv 2) ae))) (aG _)) (am (bV rfl rfl BB hra (ac bJ ae))) ax)
  (am (aH (aU (show IxR _ (dA K) from bI) (pv 2) ak (fun _ _=>rfl))))),?_⟩
 have hlen:=pr.length
 refine⟨_,rfl,a,rfl,⟨_,q⟩,oZ (K:=K) (a:=a) (xs:=xs) (fun i ys H'=>H'=H∧ys=((r.take i).map fun d=>((Bk.bW ms d:Nat):Int)).map V.int∧∀d∈r.take i,(ms.getD d.2.toNat 0).testBit d.1.toNat=false) ⟨rfl,rfl,fun d hd=>nomatch hd⟩ ?_ (by rw[sizeLine_eq];omega) ?_ ?_⟩
 ·rintro i ys H' hi ⟨rfl,rfl,_⟩
  refine⟨q,?_⟩
  rw[List.length_map,List.length_map,List.length_take]
  omega
 ·rintro i x ys H' hx ⟨rfl,rfl,on⟩
  obtain⟨⟨dt,dk⟩,hd,p,rfl,qd⟩:=cw pr hx
  have mem:=List.mem_of_getElem? hd
  obtain⟨a1,a2,a3,a4⟩:=all _ mem
  refine goT (aJ ?_)
  refine⟨_,rfl,_,rfl,.ref p,l,ms,(dt,dk),rfl,⟨p,rfl,qd⟩,ql,a1,a2,a3,a4,fun hb=>?_,fun hb=>?_⟩
  ·rw[bG hd]
   refine⟨rfl,by simp,fun d h=>?_⟩
   rcases List.mem_append.mp h with h|h
   ·exact on d h
   ·rw[List.mem_singleton.mp h];exact hb
  ·refine zb (fun R=>?_) _ (au.refl _)
   have:=R.once _ mem
   rw[hb] at this
   cases this
 rintro ys H' p ⟨rfl,rfl,on⟩ hp0
 rw[hlen,List.take_length] at on
 have e0:r.take xs.length=r:=by rw[hlen,List.take_length]
 rw[e0]
 obtain⟨d0,r',rfl⟩:=List.exists_cons_of_ne_nil ne
 have s1:au H' (upd H' p (.lst (((d0::r').map fun d=>((Bk.bW ms d:Nat):Int)).map V.int))):=af hp0 _
 generalize hys:((d0::r').map fun d=>((Bk.bW ms d:Nat):Int))=ns at s1 ⊢
 have ln:ns.length=(d0::r').length:=by rw[←hys,List.length_map]
 have at0:atI (ns.map V.int) 0=some (V.int ((Bk.bW ms d0:Nat):Int)):=aX (j:=0) (by rw[←hys];rfl)
 have lr:(ns.map V.int).length=ns.length:=List.length_map _
 refine⟨_,rfl,_,rfl,p,_,0,.int ((Bk.bW ms d0:Nat):Int),rfl,rfl,SqL.up,at0,by show 1≤sizeLine;decide,fun l0 hl0=>?_⟩
 have s2:=af hl0 (.lst [V.int ((Bk.bW ms d0:Nat):Int)])
 have hp1:=s2 _ _ (ag (H:=H') (a:=p) (o:=.lst (ns.map V.int)))
 refine⟨_,rfl,p,_,rfl,.inl (.inl (.inl hp1)),l0,((ns.map V.int).length:Nat),[V.int ((Bk.bW ms d0:Nat):Int)],rfl,rfl,ag,by omega,by rw[lr];omega,by rw[lr,sizeLine_eq];simp;omega,fun l1 hl1=>?_⟩
 have e1:∀k:Nat,(List.replicate k [V.int ((Bk.bW ms d0:Nat):Int)]).flatten=(List.replicate k ((Bk.bW ms d0:Nat):Int)).map V.int:=fun k=>by
  induction k with
  | zero=>rfl
  | succ k ih=>rw[List.replicate_succ,List.flatten_cons,ih,List.replicate_succ];rfl
 rw[lr,Int.toNat_natCast,e1]
 have hp2:=(af hl1 (.lst ((List.replicate ns.length ((Bk.bW ms d0:Nat):Int)).map V.int))) _ _ hp1
 have s3:=(s1.trans s2).trans (af hl1 (.lst ((List.replicate ns.length ((Bk.bW ms d0:Nat):Int)).map V.int)))
 refine⟨p,l1,_,_,rfl,rfl,.inl (.inl hp2),SqL.up,bX _,bX _,_,rfl,?_⟩
 rw[gD]
 by_cases c:ns=List.replicate ns.length ((Bk.bW ms d0:Nat):Int)
 ·rw[decide_eq_true c]
  refine aM ?_
  refine⟨_,rfl,p,_,0,.int ((Bk.bW ms d0:Nat):Int),rfl,rfl,.inl (.inl hp2),at0,zg ⟨on,fun d hd=>?_⟩ _ s3⟩
  have hm:((Bk.bW ms d:Nat):Int)∈ns:=by rw[←hys];exact List.mem_map.mpr ⟨d,hd,rfl⟩
  rw[c] at hm
  exact Int.ofNat.inj (List.eq_of_mem_replicate hm)
 ·rw[decide_eq_false c]
  refine aJ ⟨by show 1≤sizeLine;decide,zb (fun R=>c ?_) _ s3⟩
  refine List.eq_replicate_iff.mpr ⟨rfl,fun b hb=>?_⟩
  rw[←hys] at hb
  obtain⟨d,hd,rfl⟩:=List.mem_map.mp hb
  rw[R.like d hd]
  rfl
def FOk (many:Int) (rs:List Bk.Room):Prop:=∀i r,rs[i]?=some r->(r≠[]∧DOk many ((i+2:Nat):Int) r)∧ROk (Bk.bf (rs.take i)) r
theorem FOk.take {many:Int}{rs:List Bk.Room}(h:FOk many rs) (n:Nat):FOk many (rs.take n):=fun i r e=>by
 have hi:i<n:=by
  have:=(List.getElem?_eq_some_iff.mp e).1
  rw[List.length_take] at this
  omega
 rw[List.getElem?_take,if_pos hi] at e
 rw[List.take_take,Nat.min_eq_left (by omega)]
 exact h i r e
theorem FOk.snoc {many:Int}{rs:List Bk.Room}{n:Nat}{r:Bk.Room}(e:rs[n]?=some r):FOk many (rs.take (n+1))↔FOk many (rs.take n)∧(r≠[]∧DOk many ((n+2:Nat):Int) r)∧ROk (Bk.bf (rs.take n)) r:=by
 have hn:=(List.getElem?_eq_some_iff.mp e).1
 constructor
 ·intro h
  refine⟨?_,?_⟩
  ·have:=h.take n
   rwa[List.take_take,Nat.min_eq_left (by omega)] at this
  ·have:=h n r (by rw[List.getElem?_take,if_pos (by omega)];exact e)
   rwa[List.take_take,Nat.min_eq_left (by omega)] at this
 ·rintro⟨h,g⟩ i r' e'
  have hi:i<n+1:=by
   have:=(List.getElem?_eq_some_iff.mp e').1
   rw[List.length_take] at this
   omega
  rw[List.getElem?_take,if_pos hi] at e'
  rw[List.take_take,Nat.min_eq_left (by omega)]
  by_cases c:i=n
  ·subst c
   rw[e] at e'
   cases e'
   exact g
  ·have:=h i r' (by rw[List.getElem?_take,if_pos (by omega)];exact e')
   rwa[List.take_take,Nat.min_eq_left (by omega)] at this
theorem FOk.wf {many:Int}{rs:List Bk.Room}(h:FOk many rs):Bk.WF rs:=fun i r e=>by
 obtain⟨⟨ne,D⟩,_⟩:=h i r e
 exact⟨ne,fun d hd=>by have:=D.all d hd;omega,D.rise⟩
theorem FOk.less {many:Int}{rs:List Bk.Room}(h:FOk many rs):∀r∈rs,∀d∈r,0≤d.1∧d.1<many:=fun r hr d hd=>by
 obtain⟨i,e⟩:=List.getElem?_of_mem hr
 have:=(h i r e).1.2.all d hd
 exact⟨this.1,this.2.1⟩
theorem FOk.mask {many:Int}{rs:List Bk.Room}(m8:many≤8) (h:FOk many rs):Bk.MOk rs:=fun i r e d hd=>by
 obtain⟨⟨ne,D⟩,R⟩:=h i r e
 have il:=(List.getElem?_eq_some_iff.mp e).1
 have tl:(rs.take i).length=i:=by rw[List.length_take];omega
 have up:∀k:Nat,k<i+2->(Bk.bf (rs.take i)).getD k 0=Bk.msk rs k:=fun k hk=>(Bk.dS (List.take_prefix i rs) (by rw[tl];omega)).symm
 have b:=D.all d hd
 have e1:=up d.2.toNat (by omega)
 refine⟨b.1,by omega,?_,?_⟩
 ·rw[←e1];exact R.once d hd
 ·obtain⟨d0,r',rfl⟩:=List.exists_cons_of_ne_nil ne
  have b0:=D.all d0 List.mem_cons_self
  rw[Bk.pZ e (by omega),←e1,←up d0.2.toNat (by omega)]
  exact R.like d hd
theorem t5 {rs:List Bk.Room}{n:Nat}{r:Bk.Room}(e:rs[n]?=some r):Bk.bf (rs.take (n+1))=Bk.bf (rs.take n)++[Bk.bW (Bk.bf (rs.take n)) (r.headD (0,0))]:=by
 rw[List.take_add_one,e]
 unfold Bk.bf
 rw[Option.toList_some,List.foldl_append]
 rfl
def sw (K:W.Frag) (CB:Addr):Sp:=fun vs H Q E=>∃(many:Int) (l:Addr) (xs:List V) (rs:List Bk.Room),vs=[.int many,.ref l]∧SqL K H l xs∧Paired (aV K H) xs rs∧many≤8∧rs.length≤1000∧
 (FOk many rs->∀(t:Addr) (H':Hp),au H H'->H' t=some (.lst (eJ (Bk.bf rs)))->Q (.ref t) H')∧(¬FOk many rs->∀H',au H H'->E (.ref CB) none H')
theorem xz {f:Addr}{fd:FuncData}(F:Fun K "things_from" "things_from" tT f fd) (T:TxB K mg CO) (WD:Df P w K mg base (CX1 P w) 3 "look_doors" ["many","room","number"] (qD K CB)) (WO:Df P w K mg base (CX1 P w) 2 "things_of_room" ["room","things"] (nQ K CB)) :
  FnOk P w K mg base (CX1 P w) 4 f fd ["many","rooms"] (sw K CB):=by
 refine F.okX qj (fun vs H Q E h=>?_) (fun X cdv A outer s H vs Q E hX hp hra hr h=>?_)
 ·obtain⟨many,l,xs,rs,rfl,_⟩:=h
  rfl
 obtain⟨many,l,xs,rs,rfl,ql,pr,m8,few,zg,zb⟩:=h
 subst hX
 refine⟨_,ai (aI (i:=2) qj.nd rfl (Or.inl rfl) (aO (ac ak (ac ak ae))))
  (ai (dz (show PassesOwn _ _ _ _ from PassesOwn.leaving) rfl (cH (pv 1)) (bA (i:=3) qj.nd rfl (Or.inl rfl))
   (ai (br (aS WD hr rfl hp (ac (pv 0) (ac (pv 3) (ac (aB aR rfl T.t.len cp (ac (pv 2) ae)) ae)))))
   (am (br (eG PySem.F.plainAttrs_list PySem.F.slot_list_append PySem.F.type_list_append dB (pv 2) (ac (aS WO (hr.mono (by decide)) rfl hp (ac (pv 3) (ac (pv 2) ae))) ae))))))
  (am (aH (pv 2)))),?_⟩
 refine⟨by show 2≤sizeLine;decide,fun t ht=>?_⟩
 have s1:au H (upd H t (.lst [V.int 0,V.int 0])):=af ht _
 have hlen:=pr.length
 refine⟨_,rfl,l,rfl,⟨_,s1.seqL ql⟩,fj (K:=K) (a:=l) (xs:=xs) (fun i σ H2=>∃v3,σ=[some (.int many),some (.ref l),some (.ref t),v3]∧au H H2∧H2 t=some (.lst (eJ (Bk.bf (rs.take i))))∧FOk many (rs.take i)) ⟨none,rfl,s1,ag,fun i r e=>by simp at e⟩ ?_ ?_ ?_⟩
 ·rintro i σ H2 _ ⟨v3,rfl,s2,_⟩
  exact s2.seqL ql
 ·rintro i x σ H2 hx ⟨v3,rfl,s2,ht2,fo⟩
  obtain⟨r,hr0,ra⟩:=cw pr hx
  have il:=(List.getElem?_eq_some_iff.mp hr0).1
  have tl:(rs.take i).length=i:=by rw[List.length_take];omega
  have ml:(eJ (Bk.bf (rs.take i))).length=i+2:=by unfold eJ;rw[List.length_map,Bk.cO,tl]
  have sn:=FOk.snoc (many:=many) hr0
  have bad:¬((r≠[]∧DOk many ((i+2:Nat):Int) r)∧ROk (Bk.bf (rs.take i)) r)->¬FOk many rs:=fun n g=>n (sn.mp (g.take (i+1))).2
  refine⟨_,rfl,_,rfl,_,rfl,t,_,rfl,.inl (.inl (.inl ht2)),many,_,x,r,rfl,ra.same s2,?_,?_,?_⟩
  ·rw[ml]
   exact eW (by omega) (by omega)
  ·rw[ml]
   intro D
   have D8:∀d∈r,0≤d.1∧d.1<8∧0≤d.2∧d.2<((Bk.bf (rs.take i)).length:Nat):=fun d hd=>by
    have:=D.2.all d hd
    have e2:(Bk.bf (rs.take i)).length=i+2:=by rw[Bk.cO,tl]
    rw[e2]
    exact⟨this.1,by omega,by omega,this.2.2.2⟩
   refine⟨_,rfl,.inl ⟨rfl,_,.inl (.inl ht2)⟩,_,rfl,_,rfl,x,r,t,Bk.bf (rs.take i),rfl,ra.same s2,D.1,Bk.xw D.2.rise (fun d hd=>⟨(D8 d hd).1,(D8 d hd).2.1⟩),.inl (.inl ht2),D8,fun R H3 s3=>?_,fun R H3 s3=>zb (bad fun g=>R g.2) H3 (s2.trans s3)⟩
   refine⟨t,_,_,rfl,rfl,s3 _ _ ht2,by rw[ml,sizeLine_eq];omega,?_⟩
   have tH:H t=none:=ht
   refine⟨_,rfl,fun b o e=>?_,?_,sn.mpr ⟨fo,D,R⟩⟩
   ·rw[aq (ar e tH)]
    exact s3 b o (s2 b o e)
   ·rw[ag,t5 hr0]
    unfold eJ
    rw[List.map_append]
    rfl
  ·rw[ml]
   exact fun D=>zb (bad fun g=>D g.1) H2 s2
 ·rintro σ H2 ⟨v3,rfl,s2,ht2,fo⟩
  rw[hlen,List.take_length] at ht2 fo
  exact⟨_,rfl,zg fo t H2 s2 ht2⟩
end
end Ord
namespace Ord
open PySem L2 Mx
abbrev sIn:Stmt:=top 32
abbrev oB:Stmt:=top 33
abbrev xA:Stmt:=top 34
section
variable {P:Program}{w:World}{K:W.Frag}{mg:Str->Option Value}{base:Heap}{CO:Addr}
structure WholeB (many:Nat) (rs:List Bk.Room) (first:Nat):Prop where
 m1:1≤many
 m8:many≤8
 rooms:Whole many rs
 few:rs.length<70
 nd:rs.Nodup
 fst:first=0∨(1<first∧first<rs.length+2∧Bk.msk rs first=2 ^ many-1)
 fits:Bk.dw 8 rs first
 walk:Bk.walk 8 rs first [0,1]=aE (rs.length+2)
theorem BookA.same {H H':Hp}{x:V}{many:Int}{rs:List Bk.Room}{first:Int}(s:au H H') (h:BookA K H x many rs first):BookA K H' x many rs first:=by
 obtain⟨b,l,xs,e,q,ql,pr⟩:=h.ex
 exact⟨b,l,xs,e,s.seqT q,s.seqL ql,ay (fun _ _ z=>z.same s) pr⟩
theorem jE:FnScope ["book","many","rooms","first","things"] ["book"] (ap tU):=⟨rfl,rfl,rfl,by decide +kernel,rfl,by decide +kernel,by decide +kernel⟩
end
end Ord
namespace L2
theorem jF {α:Type} [DecidableEq α]:∀(L ks:List α),ks.Nodup->(∀x∈ks,x∈L)->(∀x∈L,x∈ks)->L.length≤ks.length->L.Nodup
 | [],_,_,_,_,_=>List.nodup_nil
 | x::L,ks,nd,h1,h2,hl=>by
  have hx:x∈ks:=h2 x List.mem_cons_self
  by_cases c:x∈L
  ·have:=bP ks L nd fun y hy=>by
    rcases List.mem_cons.mp (h1 y hy) with rfl|h
    ·exact c
    ·exact h
   rw[List.length_cons] at hl
   omega
  ·have le:(ks.erase x).length=ks.length-1:=List.length_erase_of_mem hx
   refine List.nodup_cons.mpr ⟨c,jF L (ks.erase x) (nd.erase x) (fun y hy=>?_) (fun y hy=>?_) (by rw[le];rw[List.length_cons] at hl;omega)⟩
   ·have:=(nd.mem_erase_iff).mp hy
    rcases List.mem_cons.mp (h1 y this.2) with h|h
    ·exact absurd h this.1
    ·exact h
   ·refine(nd.mem_erase_iff).mpr ⟨?_,h2 y (List.mem_cons_of_mem _ hy)⟩
    rintro rfl
    exact c hy
end L2
namespace Ord
open PySem L2 Mx
section
variable {P:Program}{w:World}{K:W.Frag}{mg:Str->Option Value}{base:Heap}{CO CB:Addr}
def TOk (n:Nat) (rs:List Bk.Room) (k:Int):Prop:=rs.Nodup∧Bk.walk n rs k [0,1]=aE (rs.length+2)
def qE (K:W.Frag) (CB:Addr) (n:Nat):Sp:=fun vs H Q E=>∃(l:Addr) (xs:List V) (rs:List Bk.Room) (k:Int),vs=[.ref l,.int k]∧SqL K H l xs∧Paired (aV K H) xs rs∧Bk.WF rs∧rs.length<70∧Bk.dw n rs k∧
 (TOk n rs k->∀H',au H H'->Q .non H')∧(¬TOk n rs k->∀H',au H H'->E (.ref CB) none H')
theorem vM {f:Addr}{fd:FuncData}(n:Nat) (F:Fun K "look_turn" "look_turn" lO f fd) (T:TxB K mg CO) (BB:OwnX K mg "BadBook" CB) (WW:Df P w K mg base CX0 (n+1) "walk_rooms" ["rooms","number","walked"] (lP K n)) :
  FnOk P w K mg base (CX1 P w) (n+2) f fd ["rooms","first"] (qE K CB n):=by
 refine F.okX ss (fun vs H Q E h=>?_) (fun X cdv A outer s H vs Q E hX hp hra hr h=>?_)
 ·obtain⟨l,xs,rs,k,rfl,_⟩:=h
  rfl
 obtain⟨l,xs,rs,k,rfl,ql,pr,wf,few,fit,zg,zb⟩:=h
 subst hX
 obtain⟨t0,m0⟩:=T.no
 obtain⟨t1,m1⟩:=T.en
 obtain⟨t2,m2⟩:=T.low
 refine⟨_,ai (aK (aD gB (aB vB rfl T.t.len cp (ac (bz (nA ce (DK P w) (by have h9:(A.deeper (PyProof.Rows.envOfC "look_turn" (ap lO) s.heap.objs.size f cdv)).units+16*(n+1)+200<cLine:=hr.un;show(A.deeper _).units+1+1+1+1<cLine;omega) rfl (fun I h=>jm I h) (fun⟨p,_,e,_⟩=>⟨p,e⟩)) rfl T.set ye (ac (pv 0) ae)) ae))
    (aB aR rfl T.t.len cp (ac (pv 0) ae)) (aG _)) (am (bV rfl rfl BB hra (ac bJ ae))) ax)
  (ai (aI (i:=2) ss.nd rfl (Or.inl rfl) (za (pq (bH (v:=.int 0) rfl m0 ⟨t0,rfl⟩) ix (pq (bH (v:=.int 1) rfl m1 ⟨t1,rfl⟩) ix y9)) rfl rfl (by decide) (by decide)))
  (ai (br (aS WW hr rfl (bg (E:=fun _ _ _ _=>False)) (ac (pv 0) (ac (pv 1) (ac (pv 2) ae)))))
  (am (aK (aD (o0 hr.units0) (bz (mF rfl) rfl T.t.list gu (ac (pv 2) ae))
    (bz (eI rfl) rfl T.t.list gu (ac (bz gC rfl T.t.range jR (ac (aw bB (bH (v:=.int 2) rfl m2 ⟨t2,rfl⟩) (aB aR rfl T.t.len cp (ac (pv 0) ae))) ae)) ae)) (aG _))
   (am (bV rfl rfl BB hra (ac bJ ae))) ax)))),?_⟩
 refine⟨_,rfl,.ref l,rs.map enc,rfl,⟨l,xs,rfl,ql,cB pr⟩,by rw[List.length_map];exact few,fun p bs ks hp0 pb ndk mem=>?_⟩
 have s1:au H (upd H p (gy w p bs)):=af hp0 _
 have hlen:=pr.length
 have hbk:=pb.length
 refine⟨p,bs,rfl,ag,?_⟩
 refine⟨_,rfl,l,_,rfl,.inl (s1.seqL ql),rfl,_,rfl,?_⟩
 by_cases nd:rs.Nodup
 case neg=>
  have lb:bs.length≠xs.length:=fun e=>nd (by
   have:=jF (rs.map enc) ks ndk (fun x hx=>(mem x).mp hx) (fun x hx=>(mem x).mpr hx) (by rw[List.length_map];omega)
   unfold List.Nodup at this ⊢
   rw[List.pairwise_map] at this
   exact this.imp fun h e=>h (congrArg enc e))
  rw[decide_eq_false (fun h=>lb (by have:=V.int.inj h;omega))]
  exact aJ ⟨by show 1≤sizeLine;decide,zb (fun h=>nd h.1) _ s1⟩
 have ndm:(rs.map enc).Nodup:=by
  unfold List.Nodup
  rw[List.pairwise_map]
  exact nd.imp fun h e=>h (gh e)
 have lb:bs.length=xs.length:=by
  have h1:=bP ks (rs.map enc) ndk fun x hx=>(mem x).mp hx
  have h2:=bP (rs.map enc) ks ndm fun x hx=>(mem x).mpr hx
  rw[List.length_map] at h1 h2
  omega
 rw[lb,decide_eq_true rfl]
 refine aM ?_
 intro wd hw0
 refine⟨ag,[(Sum.inl 0,V.bl true),(Sum.inl 1,V.bl true)],rfl,by decide,?_⟩
 have hwd:(upd (upd (upd H p (gy w p bs)) wd (HO.dK [])) wd (HO.dK (gw [] [(Sum.inl 0,V.bl true),(Sum.inl 1,V.bl true)]))) wd=some (.dK (wlk [0,1])):=by rw[ag];rfl
 have s3:au H (upd (upd (upd H p (gy w p bs)) wd (HO.dK [])) wd (HO.dK (gw [] [(Sum.inl 0,V.bl true),(Sum.inl 1,V.bl true)]))):=fun b o e=>by
  have nb:b≠wd:=ar (s1 b o e) hw0
  rw[aq nb,aq nb]
  exact s1 b o e
 refine⟨_,rfl,_,rfl,_,rfl,l,wd,xs,rs,k,[0,1],rfl,s3.seqL ql,ay (fun _ _ z=>z.same s3) pr,wf,by omega,hwd,⟨by decide,fun x hx=>?_,by decide,by decide⟩,fit,fun H4 s4 h4=>?_⟩
 ·rcases List.mem_cons.mp hx with rfl|hx
  ·omega
  ·rw[List.mem_singleton.mp hx];omega
 have wdH:H wd=none:=s1.free hw0
 have s5:au H H4:=fun b o e=>s4 b o (ar e wdH) (s3 b o e)
 generalize hws:Bk.walk n rs k [0,1]=ws at h4
 have e1:(wlk ws).map (fun kv=>kV kv.1)=ws.map V.int:=by
  unfold wlk
  rw[List.map_map]
  rfl
 refine⟨_,rfl,wd,_,rfl,h4,fun l1 hl1=>?_⟩
 rw[e1]
 have s6:=s5.trans (af hl1 (.lst (ws.map V.int)))
 refine⟨_,rfl,l,_,rfl,.inl (s6.seqL ql),2,_,rfl,rfl,_,rfl,fun r1 hr1=>?_⟩
 have s7:=s6.trans (af hr1 (.rng 0 (2+((xs.length:Nat):Int))))
 refine⟨r1,0,2+((xs.length:Nat):Int),rfl,ag,by omega,by omega,by omega,by omega,by omega,fun l2 hl2=>?_⟩
 have e2:e8 0 (2+((xs.length:Nat):Int)-0).toNat=(aE (rs.length+2)).map V.int:=by
  rw[cM,show(2+((xs.length:Nat):Int)-0).toNat=rs.length+2 by omega]
 rw[e2]
 have s8:=s7.trans (af hl2 (.lst ((aE (rs.length+2)).map V.int)))
 have hl1':(upd (upd (upd H4 l1 (.lst (ws.map V.int))) r1 (.rng 0 (2+((xs.length:Nat):Int)))) l2 (.lst ((aE (rs.length+2)).map V.int))) l1=some (.lst (ws.map V.int)):=
  af hl2 _ _ _ (af hr1 _ _ _ ag)
 refine⟨l1,l2,_,_,rfl,rfl,.inl (.inl hl1'),SqL.up,bX _,bX _,_,rfl,?_⟩
 rw[gD]
 by_cases c:ws=aE (rs.length+2)
 ·rw[decide_eq_true c]
  exact aM (zg ⟨nd,hws.trans c⟩ _ s8)
 ·rw[decide_eq_false c]
  exact aJ ⟨by show 1≤sizeLine;decide,zb (fun h=>c (hws.symm.trans h.2)) _ s8⟩
structure BOk (many:Int) (rs:List Bk.Room) (first:Int):Prop where
 m:1≤many∧many≤8
 fo:FOk many rs
 fst:j2 many.toNat (Bk.bf rs) first
 turn:TOk 8 rs first
theorem lT {many:Nat}{rs:List Bk.Room}{first:Int}(m8:many≤8) (fo:FOk many rs) (h:j2 many (Bk.bf rs) first):Bk.dw 8 rs first:=by
 rcases h with rfl|⟨f1,f2,f3⟩
 ·exact(show Bk.dw 0 rs 0 from .inl rfl).le (by omega)
 ·rw[Bk.cO] at f2
  have fe:((first.toNat:Nat):Int)=first:=Int.toNat_of_nonneg (by omega)
  have:=Bk.mJ fo.wf many first.toNat (by omega) (by omega) fun o ho=>by
   have p:=Bk.sv fo.wf (fo.mask (by omega)) (many:=many) (k:=first.toNat) (by omega) (by omega) f3 o ho
   rw[p.length_eq,aQ]
  rw[fe] at this
  exact this.le m8
def j3 (K:W.Frag) (CB:Addr):Sp:=fun vs H Q E=>∃(x:V) (many:Int) (rs:List Bk.Room) (first:Int),vs=[x]∧BookA K H x many rs first∧rs.length<70∧(BOk many rs first->∀H',au H H'->Q .non H')∧(¬BOk many rs first->∀H',au H H'->E (.ref CB) none H')
theorem xB {f:Addr}{fd:FuncData}(F:Fun K "look_book" "look_book" tU f fd) (WP:Df P w K mg base (CX1 P w) 3 "look_parts" ["book"] (qC K CB)) (WF':Df P w K mg base (CX1 P w) 4 "things_from" ["many","rooms"] (sw K CB))
  (WL:Df P w K mg base (CX1 P w) 1 "look_first" ["many","things","first"] (qB K CB)) (WT:Df P w K mg base (CX1 P w) 10 "look_turn" ["rooms","first"] (qE K CB 8)):FnOk P w K mg base (CX1 P w) 11 f fd ["book"] (j3 K CB):=by
 refine F.okX jE (fun vs H Q E h=>?_) (fun X cdv A outer s H vs Q E hX hp hra hr h=>?_)
 ·obtain⟨x,many,rs,first,rfl,_⟩:=h
  rfl
 obtain⟨x,many,rs,first,rfl,B,few,zg,zb⟩:=h
 obtain⟨b,l,xs,rfl,q,ql,pr⟩:=id B.ex
 subst hX
 refine⟨_,ai (br (aS WP (hr.mono (by decide)) rfl hp (ac (pv 0) ae)))
  (ai (aI (i:=1) jE.nd rfl (Or.inl rfl) (aU (show IxR _ (bZ K) from bv) (pv 0) ak (fun _ _=>rfl)))
  (ai (aI (i:=2) jE.nd rfl (Or.inl rfl) (aU (show IxR _ (bZ K) from bv) (pv 0) ak (fun _ _=>rfl)))
  (ai (aI (i:=3) jE.nd rfl (Or.inl rfl) (aU (show IxR _ (bZ K) from bv) (pv 0) ak (fun _ _=>rfl)))
  (ai (aI (i:=4) jE.nd rfl (Or.inl rfl) (aS WF' (hr.mono (by decide)) rfl hp (ac (pv 1) (ac (pv 2) ae))))
  (ai (br (aS WL (hr.mono (by decide)) rfl hp (ac (pv 1) (ac (pv 4) (ac (pv 3) ae)))))
  (am (br (aS WT hr rfl hp (ac (pv 2) (ac (pv 3) ae)))))))))),?_⟩
 refine⟨_,rfl,.ref b,many,rs,first,rfl,B,fun m18=>?_,fun h=>zb (fun g=>h g.m) H (au.refl H)⟩
 refine⟨_,rfl,b,_,0,.int many,rfl,rfl,q,gP,?_⟩
 refine⟨_,rfl,b,_,1,.ref l,rfl,rfl,q,iP,?_⟩
 refine⟨_,rfl,b,_,2,.int first,rfl,rfl,q,tS,?_⟩
 refine⟨_,rfl,_,rfl,many,l,xs,rs,rfl,ql,pr,m18.2,by omega,fun fo t H1 s1 ht=>?_,fun h H1 s1=>zb (fun g=>h g.fo) H1 s1⟩
 obtain⟨m,rfl⟩:∃m:Nat,many=m:=⟨many.toNat,(Int.toNat_of_nonneg (by omega)).symm⟩
 refine⟨_,rfl,_,rfl,_,rfl,m,first,t,Bk.bf rs,rfl,.inl (.inl ht),by omega,fun fs=>?_,fun h=>zb (fun g=>h g.fst) H1 s1⟩
 refine⟨_,rfl,_,rfl,l,xs,rs,first,rfl,s1.seqL ql,ay (fun _ _ z=>z.same s1) pr,fo.wf,few,lT (by omega) fo fs,fun tk H2 s2=>zg ⟨m18,fo,fs,tk⟩ H2 (s1.trans s2),fun h H2 s2=>zb (fun g=>h g.turn) H2 (s1.trans s2)⟩
end
end Ord
namespace L2
open PySem
theorem cj {K:W.Frag}{H:Hp}{p:Addr}{o:List Int}(h:SqT K H p (o.map V.int)):av.rep K H (.ref p) o:=by
 refine⟨p,_,rfl,h,?_⟩
 clear h
 induction o with
 | nil=>exact .nil
 | cons x o ih=>exact .cons rfl ih
theorem ck {K:W.Frag}{H:Hp}{x:V}{o:List Int}(h:av.rep K H x o):∃p,x=.ref p∧SqT K H p (o.map V.int):=by
 obtain⟨p,xs,e,q,r⟩:=h
 have:xs=o.map V.int:=by
  clear q e
  induction r with
  | nil=>rfl
  | cons h _ ih=>rw[ih,List.map_cons];cases h;rfl
 exact⟨p,e,this▸q⟩
theorem iT {K:W.Frag}{H:Hp}{t:Addr}{ys:List V}{x:V}{o:List Int}{u:HO}(ht:H t=some (.lst ys)) (h:av.rep K H x o):av.rep K (upd H t u) x o:=by
 obtain⟨p,rfl,q⟩:=ck h
 refine cj ?_
 rcases q with(h|⟨o,h⟩)|h
 ·exact .inl (.inl (by rw[aq (by rintro rfl;rw[ht] at h;cases h)];exact h))
 ·exact .inl (.inr ⟨o,by rw[aq (by rintro rfl;rw[ht] at h;cases h)];exact h⟩)
 ·exact .inr h
end L2
namespace Ord
open PySem L2 Mx
section
variable {P:Program}{w:World}{K:W.Frag}{mg:Str->Option Value}{base:Heap}{CO:Addr}
abbrev de (rss:List Bk.ao) (r:Bk.Room):Bk.ao:=r.flatMap fun d=>(rss.getD d.2.toNat []).map (d.1::·)
def vN (K:W.Frag):Sp:=fun vs H Q _=>∃(x:V) (r:Bk.Room) (R:Addr) (rv:List V) (rss:List Bk.ao),vs=[x,.ref R]∧aV K H x r∧SqL K H R rv∧Paired ((e9 av).rep K H) rv rss∧
 (∀d∈r,0≤d.2∧d.2<rss.length)∧(∀os∈rss,os.length≤sizeLine∧∀o∈os,o.length≤100)∧(de rss r).length≤sizeLine∧
 ∀(t:Addr) (ys:List V) (H':Hp),H t=none->au H H'->H' t=some (.lst ys)->Paired (av.rep K H') ys (de rss r)->Q (.ref t) H'
theorem lU:FnScope ["room","rows","found","door"] ["room","rows"] (ap oB):=⟨rfl,rfl,rfl,by decide +kernel,rfl,by decide +kernel,by decide +kernel⟩
theorem zF {f:Addr}{fd:FuncData}(F:Fun K "rows_of_room" "rows_of_room" oB f fd):FnOk P w K mg base CX0 1 f fd ["room","rows"] (vN K):=by
 refine F.ok lU (fun vs H Q E h=>?_) (fun cdv A outer s H vs Q E hr h=>?_)
 ·obtain⟨x,r,R,rv,rss,rfl,_⟩:=h
  rfl
 obtain⟨x,r,R,rv,rss,rfl,⟨a,xs,rfl,q,pr⟩,qR,pR,doors,small,total,z⟩:=h
 refine⟨_,ai (aI (i:=2) lU.nd rfl (Or.inl rfl) (aO ae))
  (ai (PS.nox (dz PassesOwn.never rfl (gW (pv 0)) (bA (i:=3) lU.nd rfl (Or.inr rfl))
   (am (br (eG PySem.F.plainAttrs_list PySem.F.slot_list_extend PySem.F.type_list_extend uP (pv 2)
    (ac (dM rfl (show CScope (ap oB) ["room","rows","found","door"] _ _ from by constructor <;> decide +kernel)
     (cH (aU (show IxR _ (dA K) from bI) (pv 1) (aU (show IxR _ (bZ K) from bv) (pv 3) ak (fun _ _=>rfl)) (fun _ _=>rfl))) (fun _ _ _ _ _ _=>fu)
     (fun cl C s₂ H₂ fp aa=>aw (show OpR _ _ (xT K) from rF) (aY (ac (aU (show IxR _ (bZ K) from bv) (pv 4) ak (fun _ _=>rfl)) ae)) (pv 0)) lU.nd) ae))))))
  (am (aH (pv 2)))),?_⟩
 refine⟨by show 0≤sizeLine;decide,fun t ht=>?_⟩
 have s1:au H (upd H t (.lst [])):=af ht _
 refine⟨_,rfl,a,rfl,⟨_,s1.seqT q⟩,jO (K:=K) (a:=a) (xs:=xs) (fun i σ H2=>∃v3 ys,σ=[some (.ref a),some (.ref R),some (.ref t),v3]∧au H H2∧H2 t=some (.lst ys)∧Paired (av.rep K H2) ys (de rss (r.take i))) ⟨none,[],rfl,s1,ag,.nil⟩ ?_ ?_ ?_⟩
 ·rintro i σ H2 _ ⟨v3,ys,rfl,s2,_⟩
  exact s2.seqT q
 ·rintro i y σ H2 hy ⟨v3,ys,rfl,s2,ht2,p2⟩
  obtain⟨⟨dt,dk⟩,hd,p,rfl,qd⟩:=cw pr hy
  obtain⟨k0,kl⟩:=doors _ (List.mem_of_getElem? hd)
  have kl':dk.toNat<rss.length:=by have:dk<rss.length:=kl;omega
  obtain⟨os,hos⟩:∃os,rss[dk.toNat]?=some os:=⟨_,List.getElem?_eq_getElem kl'⟩
  obtain⟨u,hu,g,zs,rfl,qg,pg⟩:=dN pR hos
  obtain⟨os1,os2⟩:=small os (List.mem_of_getElem? hos)
  have ik:atI rv dk=some (.ref g):=by
   have:=aX hu
   rw[show((dk.toNat:Nat):Int)=dk by have:0≤dk:=k0;omega] at this
   exact this
  have lz:=pg.length
  refine⟨_,rfl,.inl ⟨rfl,_,.inl (.inl ht2)⟩,_,rfl,_,rfl,p,_,1,.int dk,rfl,rfl,s2.seqT qd,iP,R,rv,dk,.ref g,rfl,rfl,s2.seqL qR,ik,g,rfl,⟨_,s2.seqL qg⟩,
   fv (K:=K) (a:=g) (xs:=zs) (fun j ws H3=>au H2 H3∧Paired (av.rep K H3) ws ((os.take j).map (dt::·))) ⟨au.refl _,.nil⟩ ?_ (by omega) ?_ ?_⟩
  ·rintro j ws H3 hj ⟨s3,p3⟩
   refine⟨(s2.trans s3).seqL qg,?_⟩
   rw[p3.length,List.length_map,List.length_take]
   omega
  ·rintro j x ws H3 hx ⟨s3,p3⟩
   obtain⟨o,ho,ro⟩:=cw pg hx
   obtain⟨po,rfl,qo⟩:=ck ro
   have ol:=os2 o (List.mem_of_getElem? ho)
   refine goT (aJ ?_)
   refine⟨_,rfl,p,_,0,.int dt,rfl,rfl,(s2.trans s3).seqT qd,gP,by show 1≤sizeLine;decide,fun n1 hn1=>?_⟩
   have s4:au H3 (upd H3 n1 (.tup [V.int dt])):=af hn1 _
   refine⟨_,rfl,n1,po,[V.int dt],o.map V.int,rfl,rfl,SqT.up,((s2.trans s3).trans s4).seqT qo,(fun h=>nomatch h),by rw[List.length_map,sizeLine_eq];simp;omega,fun e=>?_,fun e n2 hn2=>?_⟩
   ·have e':o=[]:=List.map_eq_nil_iff.mp e
    subst e'
    refine⟨s3.trans s4,?_⟩
    rw[bG ho,List.map_append]
    exact bL (ay (fun _ _ z=>av.mono s4 z) p3) (.cons (cj (o:=[dt]) SqT.up) .nil)
   ·have s5:=s4.trans (af hn2 (.tup ([V.int dt]++o.map V.int)))
    refine⟨s3.trans s5,?_⟩
    rw[bG ho,List.map_append]
    exact bL (ay (fun _ _ z=>av.mono s5 z) p3) (.cons (cj (o:=dt::o) SqT.up) .nil)
  ·rintro ws H3 c ⟨s3,p3⟩ hc0
   rw[lz,List.take_length] at p3
   have s4:au H3 (upd H3 c (.lst ws)):=af hc0 _
   have htn:H t=none:=ht
   have ht3:=s4 _ _ (s3 _ _ ht2)
   have e1:de rss (r.take (i+1))=de rss (r.take i)++os.map (dt::·):=by
    rw[bG hd,de,List.flatMap_append]
    show _++((rss.getD dk.toNat []).map (dt::·)++[])=_
    rw[List.getD_eq_getElem?_getD,hos,List.append_nil]
    rfl
   have e2:(de rss (r.take (i+1))).length≤(de rss r).length:=by
    have:de rss r=de rss (r.take (i+1))++de rss (r.drop (i+1)):=by rw[de,de,de,←List.flatMap_append,List.take_append_drop]
    rw[this,List.length_append]
    omega
   have l2:=p2.length
   have l3:=p3.length
   rw[e1,List.length_append] at e2
   refine⟨t,c,ys,ws,rfl,rfl,ht3,ag,by omega,_,ys++ws,rfl,fun b o e=>?_,ag,?_⟩
   ·rw[aq (ar e htn)]
    exact s4 b o (s3 b o (s2 b o e))
   ·rw[e1]
    exact bL (ay (fun _ _ z=>iT ht3 (av.mono (s3.trans s4) z)) p2) (ay (fun _ _ z=>iT ht3 (av.mono s4 z)) p3)
 ·rintro σ H2 ⟨v3,ys,rfl,s2,ht2,p2⟩
  rw[pr.length,List.take_length] at p2
  exact⟨_,rfl,z t ys H2 ht s2 ht2 p2⟩
def iU (K:W.Frag) (H0:Hp) (R:Addr) (H:Hp) (x:V) (os:Bk.ao):Prop:=∃a ys,x=.ref a∧H0 a=none∧a≠R∧H a=some (.lst ys)∧Paired (av.rep K H) ys os
theorem iU.rep {H0 H:Hp}{R:Addr}{x:V}{os:Bk.ao}(h:iU K H0 R H x os):(e9 av).rep K H x os:=by
 obtain⟨a,ys,e,_,_,q,p⟩:=h
 exact⟨a,ys,e,.inl (.inl q),p⟩
theorem iU.same {H0 H H':Hp}{R:Addr}{x:V}{os:Bk.ao}(s:au H H') (h:iU K H0 R H x os):iU K H0 R H' x os:=by
 obtain⟨a,ys,e,z,n,q,p⟩:=h
 exact⟨a,ys,e,z,n,s _ _ q,ay (fun _ _ z=>av.mono s z) p⟩
theorem iU.upd {H0 H:Hp}{R:Addr}{x:V}{os:Bk.ao}{rv:List V}{u:HO}(hR:H R=some (.lst rv)) (h:iU K H0 R H x os):iU K H0 R (L2.upd H R u) x os:=by
 obtain⟨a,ys,e,z,n,q,p⟩:=h
 exact⟨a,ys,e,z,n,by rw[aq n];exact q,ay (fun _ _ z=>iT hR z) p⟩
theorem xC:FnScope ["book","rows","room"] ["book"] (ap sIn):=⟨rfl,rfl,rfl,by decide +kernel,rfl,by decide +kernel,by decide +kernel⟩
end
end Ord
namespace Ord
open PySem L2 Mx
section
variable {P:Program}{w:World}{K:W.Frag}{mg:Str->Option Value}{base:Heap}{CO:Addr}
theorem DN:FnScope ["book","order","number","thing"] ["book","order"] (ap xA):=⟨rfl,rfl,rfl,by decide +kernel,rfl,by decide +kernel,by decide +kernel⟩
end
end Ord
namespace Ord
open PySem L2 Mx
abbrev ua (many:Nat):Int->Prop:=fun x=>0≤x∧x<(many:Int)
theorem ub {many:Nat}(m1:1≤many) (m8:many≤8):WholeB many [] 0 where
 m1:=m1
 m8:=m8
 rooms:=⟨(fun i r h=>by simp at h),(fun i r h=>by simp at h),(fun r h=>nomatch h),(by decide)⟩
 few:=by decide
 nd:=List.nodup_nil
 fst:=.inl rfl
 fits:=.inl rfl
 walk:=by rw[show((0:Nat):Int)=0 from rfl,Bk.fD (by decide)];rfl
theorem vO {many:Nat}{os:Bk.ao}(m1:1≤many) (m8:many≤8) (h:Bk.eu many (ua many) os) (ne:os≠[]) (few:(Bk.lay many os []).2.length<70):WholeB many (Bk.lay many os []).2 (Bk.lay many os []).1:=by
 have wf0:Bk.WF []:=fun i r h=>by simp at h
 have mk0:Bk.MOk []:=fun i r h=>by simp at h
 obtain⟨wf,pre,tells⟩:=Bk.cg many os [] h.plain ne wf0
 obtain⟨mk,hs⟩:=Bk.p8 many (ua many) os [] h ne wf0 mk0
 have all:∀o∈Bk.sem (Bk.lay many os []).2 (Bk.lay many os []).1,o.length=many:=fun o ho=>(h o ((tells.mem o).mp ho)).1
 have fit:=Bk.mJ wf many _ tells.lo tells.hi all
 refine⟨m1,m8,⟨wf,mk,Bk.qm many os [] (fun o ho x hx=>(((h o ho).2.2.2 x).mp hx).2) (fun r h=>by cases h),by omega⟩,few,Bk.nF many os [] List.nodup_nil,.inr ⟨?_,tells.hi,Bk.xt hs⟩,fit.le m8,?_⟩
 ·have lo:=tells.lo
  have n1:(Bk.lay many os []).1≠1:=fun e=>by
   have:=all [] (by rw[e,Bk.cW];exact List.mem_cons_self)
   simp at this
   omega
  omega
 ·have:=Bk.pY many os [] (Bk.lay many os []).2 h.plain ne wf0 List.prefix_rfl 8 m8
  exact this
theorem zG {many:Nat}{os:Bk.ao}(h:Bk.eu many (ua many) os) (ne:os≠[]):Bk.bK (Bk.sem (Bk.lay many os []).2 (Bk.lay many os []).1)∧Bk.fc (Bk.sem (Bk.lay many os []).2 (Bk.lay many os []).1) os:=by
 obtain⟨wf,pre,tells⟩:=Bk.cg many os [] h.plain ne (fun i r h=>by simp at h)
 exact⟨tells.rise,tells.mem⟩
end Ord
namespace Ord
open PySem L2 Mx
section
variable {P:Program}{w:World}{K:W.Frag}{mg:Str->Option Value}{base:Heap}{CO CB:Addr}
theorem BOk.whole {many:Int}{rs:List Bk.Room}{first:Int}(B:BOk many rs first) (few:rs.length<70):∃m f:Nat,many=m∧first=f∧WholeB m rs f:=by
 obtain⟨m,rfl⟩:∃m:Nat,many=m:=⟨many.toNat,(Int.toNat_of_nonneg (by have:=B.m;omega)).symm⟩
 have f0:0≤first:=by
  rcases B.fst with h|h
  ·omega
  ·omega
 obtain⟨f,rfl⟩:∃f:Nat,first=f:=⟨first.toNat,(Int.toNat_of_nonneg f0).symm⟩
 have m8:=B.m
 refine⟨m,f,rfl,rfl,by omega,by omega,⟨B.fo.wf,B.fo.mask (by omega),fun r hr d hd=>(B.fo.less r hr d hd).2,by omega⟩,few,B.turn.1,?_,?_,B.turn.2⟩
 ·rcases B.fst with h|⟨h1,h2,h3⟩
  ·exact .inl (by omega)
  ·rw[Bk.cO] at h2
   exact .inr ⟨by omega,by omega,h3⟩
 ·exact lT (many:=m) (by omega) B.fo B.fst
def yf (K:W.Frag) (CB:Addr):Sp:=fun vs H Q E=>∃(x:V) (many:Int) (rs:List Bk.Room) (first:Int),vs=[x]∧BookA K H x many rs first∧rs.length<70∧(BOk many rs first->∀(t:Addr) H',au H H'->Q (.ref t) H')∧(¬BOk many rs first->∀H',au H H'->E (.ref CB) none H')
theorem AX {f:Addr}{fd:FuncData}(F:Fun K "orders_in" "orders_in" sIn f fd) (WB:Df P w K mg base (CX1 P w) 11 "look_book" ["book"] (j3 K CB)) (WR:Df P w K mg base CX0 1 "rows_of_room" ["room","rows"] (vN K)):FnOk P w K mg base (CX1 P w) 12 f fd ["book"] (yf K CB):=by
 refine F.okX xC (fun vs H Q E h=>?_) (fun X cdv A outer s H vs Q E hX hp hra hr h=>?_)
 ·obtain⟨x,many,rs,first,rfl,_⟩:=h
  rfl
 obtain⟨x,many,rs,first,rfl,B,few0,zg,zb⟩:=h
 subst hX
 obtain⟨b,l,xs,rfl,q,ql,pr⟩:=id B.ex
 refine⟨_,ai (br (aS WB hr rfl hp (ac (pv 0) ae)))
  (ai (aI (i:=1) xC.nd rfl (Or.inl rfl) (aO (ac (aO ae) (ac (aO (ac (aY ae) ae)) ae))))
  (ai (PS.nox (dz PassesOwn.never rfl (cH (aU (show IxR _ (bZ K) from bv) (pv 0) ak (fun _ _=>rfl))) (bA (i:=2) xC.nd rfl (Or.inl rfl))
   (am (br (eG PySem.F.plainAttrs_list PySem.F.slot_list_append PySem.F.type_list_append dB (pv 1) (ac (aS WR (hr.mono (by decide)) rfl (bg (E:=fun _ _ _ _=>False)) (ac (pv 2) (ac (pv 1) ae))) ae))))))
  (am (aH (aU (show IxR _ (dA K) from bI) (pv 1) (aU (show IxR _ (bZ K) from bv) (pv 0) ak (fun _ _=>rfl)) (fun _ _=>rfl)))))),?_⟩
 refine⟨_,rfl,.ref b,many,rs,first,rfl,B,few0,fun ok0 H1 s1=>?_,fun n H1 s1=>zb n H1 s1⟩
 obtain⟨many,first,rfl,rfl,W⟩:=ok0.whole few0
 have small:∀os∈Bk.bj rs,os.length≤sizeLine∧∀o∈os,o.length≤100:=fun os h=>by
  have:=Bk.tW W.rooms.wf W.rooms.mask (by omega) os h
  exact⟨by rw[sizeLine_eq];have:=this.1;omega,this.2⟩
 refine⟨by show 0≤sizeLine;decide,fun e0 he0=>?_⟩
 have t0:=af he0 (.lst [])
 refine⟨by show 0≤sizeLine;decide,fun e1 he1=>?_⟩
 have t1:=af he1 (.tup [])
 refine⟨by show 1≤sizeLine;decide,fun e2 he2=>?_⟩
 have t2:=af he2 (.lst [V.ref e1])
 refine⟨by show 2≤sizeLine;decide,fun R hR=>?_⟩
 have t3:=af hR (.lst [V.ref e0,V.ref e2])
 have s2:=s1.trans (((t0.trans t1).trans t2).trans t3)
 refine⟨_,rfl,b,_,1,.ref l,rfl,rfl,s2.seqT q,iP,l,rfl,⟨_,s2.seqL ql⟩,
  fj (K:=K) (a:=l) (xs:=xs) (fun i σ H2=>∃v2 rv,σ=[some (.ref b),some (.ref R),v2]∧au H H2∧H2 R=some (.lst rv)∧Paired (iU K H R H2) rv (Bk.bj (rs.take i))) ⟨none,[.ref e0,.ref e2],rfl,s2,ag,?_⟩ ?_ ?_ ?_⟩
 ·have z0:H e0=none:=s1.free he0
  have z2:H e2=none:=(s1.trans (t0.trans t1)).free he2
  have g0:=((t0.trans t1).trans t2)
  refine .cons ⟨e0,[],rfl,z0,ar (t2 _ _ (t1 _ _ ag)) hR,t3 _ _ (t2 _ _ (t1 _ _ ag)),.nil⟩ (.cons ⟨e2,[.ref e1],rfl,z2,ar ag hR,t3 _ _ ag,.cons (cj (o:=[]) (.inl (.inl (t3 _ _ (t2 _ _ ag))))) .nil⟩ .nil)
 ·rintro i σ H2 _ ⟨v2,rv,rfl,s3,_⟩
  exact s3.seqL ql
 ·rintro i y σ H2 hy ⟨v2,rv,rfl,s3,hR2,p2⟩
  obtain⟨r,hr0,ra⟩:=cw pr hy
  have few:=W.few
  have il:=(List.getElem?_eq_some_iff.mp hr0).1
  have tl:(rs.take i).length=i:=by rw[List.length_take];omega
  have ok:=W.rooms.wf i r hr0
  have ll:=Bk.du (rs.take i)
  have stp:Bk.bj (rs.take (i+1))=Bk.bj (rs.take i)++[de (Bk.bj (rs.take i)) r]:=by
   rw[bG hr0]
   unfold Bk.bj
   rw[List.foldl_append]
   rfl
  have pre:∀j,∀os∈Bk.bj (rs.take j),os∈Bk.bj rs:=fun j os ho=>by
   have e:Bk.bj rs=(rs.drop j).foldl Bk.eR (Bk.bj (rs.take j)):=by
    unfold Bk.bj
    rw[←List.foldl_append,List.take_append_drop]
   rw[e]
   exact(Bk.ju (rs.drop j) (Bk.bj (rs.take j))).subset ho
  refine⟨_,rfl,.inl ⟨rfl,_,.inl (.inl hR2)⟩,_,rfl,_,rfl,y,r,R,rv,Bk.bj (rs.take i),rfl,ra.same s3,.inl (.inl hR2),ay (fun _ _ z=>z.rep) p2,fun d hd=>?_,fun os ho=>small os (pre i os ho),?_,fun t ys H3 hn s4 ht pt=>?_⟩
  ·have:=ok.ahead d hd
   rw[ll,tl]
   omega
  ·exact(small _ (pre (i+1) _ (by rw[stp];exact List.mem_append_right _ List.mem_cons_self))).1
  have l2:=p2.length
  have hR3:=s4 _ _ hR2
  have nRt:t≠R:=fun e=>by rw[e,hR2] at hn;cases hn
  refine⟨R,rv,.ref t,rfl,rfl,hR3,by rw[l2,ll,tl,sizeLine_eq];omega,_,rv++[.ref t],rfl,fun b' o e=>?_,ag,?_⟩
  ·have hRH:H R=none:=(s1.trans ((t0.trans t1).trans t2)).free hR
   rw[aq (ar e hRH)]
   exact s4 b' o (s3 b' o e)
  ·rw[stp]
   exact bL (ay (fun _ _ z=>(z.same s4).upd hR3) p2) (.cons ⟨t,ys,rfl,s3.free hn,nRt,by rw[aq nRt];exact ht,ay (fun _ _ z=>iT hR3 z) pt⟩ .nil)
 ·rintro σ H2 ⟨v2,rv,rfl,s3,hR2,p2⟩
  rw[pr.length,List.take_length] at p2
  have fl:first<(Bk.bj rs).length:=by
   rw[Bk.du]
   rcases W.fst with h|h
   ·omega
   ·exact h.2.1
  obtain⟨x,hx,a,ys,rfl,z1,z2,z3,z4⟩:=dN p2 (List.getElem?_eq_getElem fl)
  have es:(Bk.bj rs)[first]=Bk.sem rs first:=by
   unfold Bk.sem
   rw[List.getD_eq_getElem?_getD,List.getElem?_eq_getElem fl]
   rfl
  rw[es] at z4
  exact⟨_,rfl,_,rfl,b,_,2,.int first,rfl,rfl,s3.seqT q,tS,R,rv,first,.ref a,rfl,rfl,.inl (.inl hR2),aX hx,zg ok0 a H2 s3⟩
def vP (K:W.Frag) (CB CO:Addr):Sp:=fun vs H Q E=>∃(x:V) (many:Int) (rs:List Bk.Room) (first:Int) (a:Addr) (o:List Int),vs=[x,.ref a]∧BookA K H x many rs first∧rs.length<70∧Tp K H a o∧(BOk many rs first->¬mD many o)∧
 (BOk many rs first->∀H',au H H'->E (.ref CO) none H')∧(¬BOk many rs first->∀H',au H H'->E (.ref CB) none H')
theorem zH {f:Addr}{fd:FuncData}(F:Fun K "has" "has" xA f fd) (T:TxB K mg CO) (WB:Df P w K mg base (CX1 P w) 11 "look_book" ["book"] (j3 K CB)) (WL:Df P w K mg base (CX1 P w) 4 "look_order" ["many","order"] (pf K CO)):FnOk P w K mg base (CX1 P w) 12 f fd ["book","order"] (vP K CB CO):=by
 refine F.okX DN (fun vs H Q E h=>?_) (fun X cdv A outer s H vs Q E hX hp hra hr h=>?_)
 ·obtain⟨x,many,rs,first,a,o,rfl,_⟩:=h
  rfl
 obtain⟨x,many,rs,first,a,o,rfl,B,few,tp,ng,zo,zb⟩:=h
 obtain⟨b,l,xs,rfl,q,ql,pr⟩:=id B.ex
 subst hX
 refine⟨_,ai (br (aS WB hr rfl hp (ac (pv 0) ae)))
  (ai (br (aS WL (hr.mono (by decide)) rfl hp (ac (aU (show IxR _ (bZ K) from bv) (pv 0) ak (fun _ _=>rfl)) (ac (pv 1) ae))))
  (ai aL (ai aL (am aL)))),?_⟩
 refine⟨_,rfl,.ref b,many,rs,first,rfl,B,few,fun ok H1 s1=>?_,fun n H1 s1=>zb n H1 s1⟩
 have m:=ok.m
 exact⟨_,rfl,b,_,0,.int many,rfl,rfl,s1.seqT q,gP,_,rfl,many,a,o,rfl,eW (by omega) (by omega),tp.same s1,fun g=>absurd g (ng ok),fun _ H2 s2=>zo ok H2 (s1.trans s2)⟩
end
end Ord
namespace Ord
open PySem L2 Mx
abbrev uc:Stmt:=top 43
abbrev jG:Stmt:=top 44
abbrev iV:Stmt:=top 45
abbrev im:Stmt:=top 46
abbrev ud:Stmt:=top 47
theorem zI:bootBuiltins "ValueError"=some (.type "ValueError"):=by decide +kernel
section
variable {P:Program}{w:World}{K:W.Frag}{mg:Str->Option Value}{base:Heap}{CO:Addr}
def Kd (K:W.Frag) (mg:Str->Option Value) (C:Addr) (x:Str) (b:Bool):Prop:=∃D,mg x=some (.ref D)∧W.kitOne K (.ref C) (.ref D)=some b
structure Ref (K:W.Frag) (mg:Str->Option Value) (C:Addr) (b0 b1 b2 b3 b4 b5 b6:Bool) (j:Nat) (word:Str):Prop where
 k0:Kd K mg C "BadBook" b0
 k1:Kd K mg C "BadNumber" b1
 k2:Kd K mg C "BadOrder" b2
 k3:Kd K mg C "BadRule" b3
 k4:Kd K mg C "BadText" b4
 k5:Kd K mg C "BadWeights" b5
 k6:Kd K mg C "Unlike" b6
 ei:ExcI K C
 ve:mg "ValueError"=none
 kv:W.kitOne K (.ref C) (.type "ValueError")=some true
 cnt:[V.bl b0,V.bl b1,V.bl b2,V.bl b3,V.bl b4,V.bl b5,V.bl b6].countP (fun y=>eqV y (.bl true))=1
 at_:[b0,b1,b2,b3,b4,b5,b6][j]?=some true
 bef:∀i,i<j->[b0,b1,b2,b3,b4,b5,b6][i]?=some false
 wd:atI [V.str "book",V.str "number",V.str "order",V.str "rule",V.str "text",V.str "weights",V.str "unlike"] (j:Int)=some (.str word)
def qF (K:W.Frag) (mg:Str->Option Value):Sp:=fun vs H Q _=>(vs=[.non]∧Q (.str "ok") H)∨∃(e C:Addr) (b0 b1 b2 b3 b4 b5 b6:Bool) (j:Nat) (word:Str),vs=[.ref e]∧H e=some (iC e (.ref C))∧Ref K mg C b0 b1 b2 b3 b4 b5 b6 j word∧∀H',au H H'->Q (.str word) H'
theorem qG:FnScope ["_law_kept","_law_kinds"] ["_law_kept"] (ap uc):=⟨rfl,rfl,rfl,by decide +kernel,rfl,by decide +kernel,by decide +kernel⟩
theorem zJ {f:Addr}{fd:FuncData}(F:Fun K "_law_refusal" "_law_refusal" uc f fd) (T:TxB K mg CO):FnOk P w K mg base CX0 1 f fd ["_law_kept"] (qF K mg):=by
 refine F.ok qG (fun vs H Q E h=>?_) (fun cdv A outer s H vs Q E hr h=>?_)
 ·rcases h with⟨rfl,_⟩|⟨e,C,_,_,_,_,_,_,_,_,_,rfl,_⟩
  ·rfl
  ·rfl
 rcases h with⟨rfl,q⟩|⟨e,C,b0,b1,b2,b3,b4,b5,b6,j,word,rfl,he,R,q⟩
 ·exact⟨_,ai (aK (aD li (pv 0) fL (aG _)) (am (aH bJ)) ax) (ai aL (ai aL (ai aL (ai aL (am aL))))),⟨_,rfl,rfl,_,rfl,aJ q⟩⟩
 obtain⟨D0,m0,k0⟩:=R.k0
 obtain⟨D1,m1,k1⟩:=R.k1
 obtain⟨D2,m2,k2⟩:=R.k2
 obtain⟨D3,m3,k3⟩:=R.k3
 obtain⟨D4,m4,k4⟩:=R.k4
 obtain⟨D5,m5,k5⟩:=R.k5
 obtain⟨D6,m6,k6⟩:=R.k6
 refine⟨_,ai (aK (aD li (pv 0) fL (aG _)) (am (aH bJ)) ax)
  (ai (aI (i:=1) qG.nd rfl (Or.inl rfl) (aO
   (ac (aB bQ rfl T.t.isi cY (ac (pv 0) (ac (bH (v:=.ref D0) rfl m0 rfl) ae)))
   (ac (aB bQ rfl T.t.isi cY (ac (pv 0) (ac (bH (v:=.ref D1) rfl m1 rfl) ae)))
   (ac (aB bQ rfl T.t.isi cY (ac (pv 0) (ac (bH (v:=.ref D2) rfl m2 rfl) ae))) ae)))))
  (ai (aI (i:=1) qG.nd rfl (Or.inl rfl) (aw cV (pv 1) (aO
   (ac (aB bQ rfl T.t.isi cY (ac (pv 0) (ac (bH (v:=.ref D3) rfl m3 rfl) ae)))
   (ac (aB bQ rfl T.t.isi cY (ac (pv 0) (ac (bH (v:=.ref D4) rfl m4 rfl) ae)))
   (ac (aB bQ rfl T.t.isi cY (ac (pv 0) (ac (bH (v:=.ref D5) rfl m5 rfl) ae))) ae))))))
  (ai (br (eG PySem.F.plainAttrs_list PySem.F.slot_list_append PySem.F.type_list_append dB (pv 1) (ac (aB bQ rfl T.t.isi cY (ac (pv 0) (ac (bH (v:=.ref D6) rfl m6 rfl) ae))) ae)))
  (ai (aK (PW.pt (fW (aD gB (eG PySem.F.plainAttrs_list PySem.F.slot_list_count PySem.F.type_list_count wH (pv 1) (ac ix ae)) ak (aG _))
    (eZ (cq (dg (aB bQ rfl T.t.isi cY (ac (pv 0) (ac (eT (v:=.ty "ValueError") rfl R.ve zI rfl) ae))))))))
   (am (aH bJ)) ax)
  (am (aH (aU bI (aO (ac bJ (ac bJ (ac bJ (ac bJ (ac bJ (ac bJ (ac bJ ae))))))))
   (eG PySem.F.plainAttrs_list PySem.F.slot_list_index PySem.F.type_list_index wI (pv 1) (ac ix ae)) (fun _ _=>rfl)))))))),?_⟩
 have ty:∀H',au H H'->TyX K H' (.ref e) (.ref C):=fun H' s1=>.exc (s1 _ _ he) R.ei
 refine⟨_,rfl,rfl,_,rfl,aM ?_⟩
 refine⟨_,rfl,_,_,_,_,_,rfl,rfl,ty H (au.refl H),k0,?_⟩
 refine⟨_,rfl,_,_,_,_,_,rfl,rfl,ty H (au.refl H),k1,?_⟩
 refine⟨_,rfl,_,_,_,_,_,rfl,rfl,ty H (au.refl H),k2,?_⟩
 refine⟨by show 3≤sizeLine;decide,fun l1 n1=>?_⟩
 have s1:=af n1 (.lst [V.bl b0,V.bl b1,V.bl b2])
 have h1:(upd H l1 (.lst [V.bl b0,V.bl b1,V.bl b2])) l1=some (.lst [V.bl b0,V.bl b1,V.bl b2]):=ag
 generalize (upd H l1 (.lst [V.bl b0,V.bl b1,V.bl b2]))=H1 at s1 h1 ⊢
 refine⟨_,rfl,?_⟩
 refine⟨_,rfl,_,_,_,_,_,rfl,rfl,ty _ s1,k3,?_⟩
 refine⟨_,rfl,_,_,_,_,_,rfl,rfl,ty _ s1,k4,?_⟩
 refine⟨_,rfl,_,_,_,_,_,rfl,rfl,ty _ s1,k5,?_⟩
 refine⟨by show 3≤sizeLine;decide,fun l2 n2=>?_⟩
 have s2:=s1.trans (af n2 (.lst [V.bl b3,V.bl b4,V.bl b5]))
 have h2:=af n2 (.lst [V.bl b3,V.bl b4,V.bl b5]) _ _ h1
 have h2':(upd H1 l2 (.lst [V.bl b3,V.bl b4,V.bl b5])) l2=some (.lst [V.bl b3,V.bl b4,V.bl b5]):=ag
 generalize (upd H1 l2 (.lst [V.bl b3,V.bl b4,V.bl b5]))=H2 at s2 h2 h2' ⊢
 refine⟨l1,l2,_,_,rfl,rfl,h2,h2',by show 6≤sizeLine;decide,fun l n3=>?_⟩
 have s3:=s2.trans (af n3 (.lst [V.bl b0,V.bl b1,V.bl b2,V.bl b3,V.bl b4,V.bl b5]))
 have h3:(upd H2 l (.lst [V.bl b0,V.bl b1,V.bl b2,V.bl b3,V.bl b4,V.bl b5])) l=some (.lst [V.bl b0,V.bl b1,V.bl b2,V.bl b3,V.bl b4,V.bl b5]):=ag
 have hl0:H l=none:=s2.free n3
 have e6:([V.bl b0,V.bl b1,V.bl b2]++[V.bl b3,V.bl b4,V.bl b5])=[V.bl b0,V.bl b1,V.bl b2,V.bl b3,V.bl b4,V.bl b5]:=rfl
 rw[e6]
 generalize (upd H2 l (.lst [V.bl b0,V.bl b1,V.bl b2,V.bl b3,V.bl b4,V.bl b5]))=H3 at s3 h3 ⊢
 refine⟨_,rfl,.inl ⟨rfl,_,SqL.of h3⟩,?_⟩
 refine⟨_,rfl,_,_,_,_,_,rfl,rfl,ty _ s3,k6,?_⟩
 refine⟨l,_,_,rfl,rfl,h3,by show 6<sizeLine;decide,?_⟩
 have e7:([V.bl b0,V.bl b1,V.bl b2,V.bl b3,V.bl b4,V.bl b5]++[V.bl b6])=[V.bl b0,V.bl b1,V.bl b2,V.bl b3,V.bl b4,V.bl b5,V.bl b6]:=rfl
 rw[e7]
 have s4:au H (upd H3 l (.lst [V.bl b0,V.bl b1,V.bl b2,V.bl b3,V.bl b4,V.bl b5,V.bl b6])):=fun b o qq=>by
  rw[aq (ar qq hl0)]
  exact s3 b o qq
 have h4:(upd H3 l (.lst [V.bl b0,V.bl b1,V.bl b2,V.bl b3,V.bl b4,V.bl b5,V.bl b6])) l=some (.lst [V.bl b0,V.bl b1,V.bl b2,V.bl b3,V.bl b4,V.bl b5,V.bl b6]):=ag
 generalize (upd H3 l (.lst [V.bl b0,V.bl b1,V.bl b2,V.bl b3,V.bl b4,V.bl b5,V.bl b6]))=H4 at s4 h4 ⊢
 refine⟨_,rfl,.inl ⟨rfl,_,SqL.of h4⟩,l,_,_,rfl,rfl,SqL.of h4,rfl,rfl,rfl,_,rfl,?_⟩
 rw[R.cnt,decide_eq_true (show V.int ((1:Nat):Int)=V.int 1 from rfl)]
 refine aM ?_
 refine⟨_,rfl,_,_,_,_,_,rfl,rfl,ty _ s4,R.kv,_,rfl,aM ?_⟩
 refine⟨by show 7≤sizeLine;decide,fun l3 n5=>?_⟩
 have s5:=af n5 (.lst [V.str "book",V.str "number",V.str "order",V.str "rule",V.str "text",V.str "weights",V.str "unlike"])
 have h5:=SqL.of (K:=K) (s5 _ _ h4)
 have bm:∀i:Nat,[V.bl b0,V.bl b1,V.bl b2,V.bl b3,V.bl b4,V.bl b5,V.bl b6][i]?=([b0,b1,b2,b3,b4,b5,b6][i]?).map V.bl:=fun i=>by
  rw[←List.getElem?_map]
  rfl
 refine⟨_,rfl,.inl ⟨rfl,_,h5⟩,l,_,_,j,rfl,rfl,h5,rfl,rfl,⟨.bl true,by rw[bm,R.at_];rfl,rfl⟩,fun i y hi hy=>?_,l3,_,_,_,rfl,rfl,SqL.up,R.wd,q _ (s4.trans s5)⟩
 rw[bm,R.bef i hi] at hy
 cases hy
 rfl
end
structure Tr (K:W.Frag) (mg:Str->Option Value) (CE:Addr):Prop where
 kn:mg "NestError"=some (.ref CE)
 nt:W.instIn K (.ref CE) (.type "tuple")=some false
 xc:W.mroIn K CE (.type "BaseException")=some true
 cl:W.isClsIn K CE=true
section
variable {P:Program}{w:World}{K:W.Frag}{mg:Str->Option Value}{base:Heap}{CO CB CE:Addr}
abbrev AY (K:W.Frag) (mg:Str->Option Value) (CB:Addr):Prop:=Ref K mg CB true false false false false false false 0 "book"
abbrev AZ (K:W.Frag) (mg:Str->Option Value) (CO:Addr):Prop:=Ref K mg CO false false true false false false false 2 "order"
def jH (K:W.Frag):Sp:=fun vs H Q _=>∃(way:Int) (x:V) (many:Int) (rs:List Bk.Room) (first:Int),vs=[.int way,x]∧BookA K H x many rs first∧rs.length<70∧
 (BOk many rs first->(way=0∨way=1)->∀H',au H H'->Q (.str "ok") H')∧(BOk many rs first->¬(way=0∨way=1)->many≠5∧∀H',au H H'->Q (.str "order") H')∧(¬BOk many rs first->∀H',au H H'->Q (.str "book") H')
theorem lV:FnScope ["_law_way","_law_book_here","_law_kept","e"] ["_law_way","_law_book_here"] (ap ud):=⟨rfl,rfl,rfl,by decide +kernel,rfl,by decide +kernel,by decide +kernel⟩
theorem zK {f:Addr}{fd:FuncData}(F:Fun K "_law_told" "_law_told" ud f fd) (E0:Tr K mg CE) (onB:W.mroIn K CB (.ref CE)=some true) (onO:W.mroIn K CO (.ref CE)=some true) (RB:AY K mg CB) (RO:AZ K mg CO)
  (WB:Df P w K mg base (CX1 P w) 11 "look_book" ["book"] (j3 K CB)) (WI:Df P w K mg base (CX1 P w) 12 "orders_in" ["book"] (yf K CB)) (WH:Df P w K mg base (CX1 P w) 12 "has" ["book","order"] (vP K CB CO))
  (WR:Df P w K mg base CX0 1 "_law_refusal" ["_law_kept"] (qF K mg)):FnOk P w K mg base (CX1 P w) 13 f fd ["_law_way","_law_book_here"] (jH K):=by
 refine F.okX lV (fun vs H Q E h=>?_) (fun X cdv A outer s H vs Q E hX hp hra hr h=>?_)
 ·obtain⟨way,x,many,rs,first,rfl,_⟩:=h
  rfl
 obtain⟨way,x,many,rs,first,rfl,B,few,z1,z2,z3⟩:=h
 subst hX
 refine⟨_,ai (aI (i:=2) lV.nd rfl (Or.inl rfl) fL)
  (ai (Aw rfl rfl rfl rfl rfl E0.kn E0.nt E0.xc E0.cl lV.nd (ie:=3) rfl rfl
   (fun pn' xe' E hp'=>am (aK (aD cb (pv 0) ak (aG _)) (am (br (aS WB (hr.mono (by decide)) rfl hp' (ac (pv 1) ae))))
    (am (aK (aD cb (pv 0) ak (aG _)) (am (br (aS WI hr rfl hp' (ac (pv 1) ae))))
     (am (br (aS WH hr rfl hp' (ac (pv 1) (ac (aY (ac ak (ac ak (ac ak (ac ak (ac ak ae)))))) ae)))))))))
   (fun A' pn' xe'=>am (aI (i:=2) lV.nd rfl (Or.inl rfl) (pv 3))))
  (am (aH (aS WR (hr.mono (by decide)) rfl (bg (E:=fun _ _ _ _=>False)) (ac (pv 2) ae))))),?_⟩
 have wb:∀H1,au H H1->¬BOk many rs first->∀e,H1 e=none->qF K mg [.ref e] (upd H1 e (iC e (.ref CB))) Q (fun _ _ _=>False):=fun H1 s1 n e he=>
  .inr ⟨e,CB,true,false,false,false,false,false,false,0,"book",rfl,ag,RB,fun H2 s2=>z3 n H2 ((s1.trans (af he _)).trans s2)⟩
 refine⟨_,rfl,rfl,_,rfl,?_⟩
 by_cases c0:way=0
 ·subst c0
  rw[decide_eq_true rfl]
  refine aJ ⟨_,rfl,x,many,rs,first,rfl,B,few,fun ok H1 s1=>?_,fun n H1 s1=>?_⟩
  ·exact⟨_,rfl,.inl ⟨rfl,z1 ok (.inl rfl) H1 s1⟩⟩
  ·exact⟨CB,rfl,onB,fun e he=>⟨_,rfl,_,rfl,wb H1 s1 n e he⟩⟩
 rw[decide_eq_false (fun h=>c0 (V.int.inj h))]
 refine aM ⟨_,rfl,rfl,_,rfl,?_⟩
 by_cases c1:way=1
 ·subst c1
  rw[decide_eq_true rfl]
  refine aJ ⟨_,rfl,x,many,rs,first,rfl,B,few,fun ok t H1 s1=>?_,fun n H1 s1=>?_⟩
  ·exact⟨_,rfl,.inl ⟨rfl,z1 ok (.inr rfl) H1 s1⟩⟩
  ·exact⟨CB,rfl,onB,fun e he=>⟨_,rfl,_,rfl,wb H1 s1 n e he⟩⟩
 rw[decide_eq_false (fun h=>c1 (V.int.inj h))]
 refine aM ⟨_,rfl,by show 5≤sizeLine;decide,fun t ht=>?_⟩
 have s0:=af ht (.tup [V.int 0,V.int 1,V.int 2,V.int 3,V.int 4])
 refine⟨x,many,rs,first,t,[0,1,2,3,4],rfl,B.same s0,few,⟨.inl (.inl ag),by decide,fun y hy=>eW ?_ ?_⟩,fun ok g=>?_,fun ok H1 s1=>?_,fun n H1 s1=>?_⟩
 ·have:∀y∈([0,1,2,3,4]:List Int),0≤y∧y≤4:=by decide
  have:=this y hy
  omega
 ·have:∀y∈([0,1,2,3,4]:List Int),0≤y∧y≤4:=by decide
  have:=this y hy
  omega
 ·exact(z2 ok (fun h=>h.elim c0 c1)).1 g.2.2.1.symm
 ·exact⟨CO,rfl,onO,fun e he=>⟨_,rfl,_,rfl,.inr ⟨e,CO,false,false,true,false,false,false,false,2,"order",rfl,ag,RO,fun H2 s2=>(z2 ok (fun h=>h.elim c0 c1)).2 H2 (((s0.trans s1).trans (af he _)).trans s2)⟩⟩⟩
 ·exact⟨CB,rfl,onB,fun e he=>⟨_,rfl,_,rfl,wb H1 (s0.trans s1) n e he⟩⟩
end
end Ord
namespace Bk
open Mx
def cX (f:Int×Int->Option ao):Room->ao->Option ao
 | [],acc=>some acc
 | d::r,acc=>match f d with
  | none=>none
  | some os=>cX f r (acc++os.map (d.1::·))
abbrev InR (rs:List Room) (k:Int) (seen:List Int):Prop:=(2≤k∧k<(rs.length:Int)+2)∧k∉seen
def rG (rs:List Room):Nat->Int->List Int->Option ao
 | 0,k,_=>if k=1 then some [[]] else none
 | n+1,k,seen=>if k=1 then some [[]] else if InR rs k seen then cX (fun d=>rG rs n d.2 (seen++[k])) (aA rs k) [] else none
def Bnd (rs:List Room):Nat->Int->List Int->Prop
 | 0,k,seen=>k=1∨¬InR rs k seen
 | n+1,k,seen=>k=1∨¬InR rs k seen∨((aA rs k).length≤6∧∀d∈aA rs k,Bnd rs n d.2 (seen++[k])∧∀os,rG rs n d.2 (seen++[k])=some os->os.length≤1000∧∀o∈os,o.length≤100)
end Bk
namespace L2
open PySem
def fF:HO->Prop
 | .tup _=>False
 | .frz _ _=>False
 | _=>True
section
variable {K:W.Frag}{H:Hp}{a d:Addr}{xs:List V}{o u:HO}{x:V}
theorem SqT.soft (hd:H d=some o) (so:fF o) (h:SqT K H a xs):SqT K (upd H d u) a xs:=by
 rcases h with(h|⟨ob,h⟩)|h
 ·refine .inl (.inl ?_)
  rw[aq (by rintro rfl;rw[hd] at h;cases h;exact so)]
  exact h
 ·refine .inl (.inr ⟨ob,?_⟩)
  rw[aq (by rintro rfl;rw[hd] at h;cases h;exact so)]
  exact h
 ·exact .inr h
theorem dI (hd:H d=some o) (so:fF o) {ks:List Int}(h:av.rep K H x ks):av.rep K (upd H d u) x ks:=by
 obtain⟨p,xs,e,q,r⟩:=h
 exact⟨p,xs,e,q.soft hd so,ay (fun _ _ z=>z) r⟩
theorem iW (hd:H d=some o) (so:fF o) {ks:List (List Int)}(h:ce.rep K H x ks):ce.rep K (upd H d u) x ks:=by
 obtain⟨p,xs,e,q,r⟩:=h
 exact⟨p,xs,e,q.soft hd so,ay (fun _ _ z=>dI hd so z) r⟩
end
theorem sx {r:Bk.Room}:∀{L:NL3}{rs:List Bk.Room}{k:Int},L.length=rs.length->(∀(i:Nat) (e:List (List Int)×Addr×Int),L[i]?=some e->∃r,rs[i]?=some r∧e.1=enc r∧e.2.2=(i:Int)+k)->
  dZ L (enc r)=if r∈rs then some ((rs.idxOf r:Nat)+k) else none
 | [],[],_,_,_=>rfl
 | [],_::_,_,h,_=>by simp at h
 | _::_,[],_,h,_=>by simp at h
 | e::L,r0::rs,k,h,all=>by
  obtain⟨r1,h1,h2,h3⟩:=all 0 e rfl
  simp at h1
  subst h1
  have ih:=sx (r:=r) (L:=L) (rs:=rs) (k:=k+1) (by simpa using h) fun i e' he=>by
   obtain⟨r',g1,g2,g3⟩:=all (i+1) e' (by simpa using he)
   exact⟨r',by simpa using g1,g2,by rw[g3];omega⟩
  by_cases c:r0=r
  ·subst c
   rw[if_pos List.mem_cons_self,List.idxOf_cons_self]
   unfold dZ
   rw[List.find?_cons_of_pos (by simpa using h2)]
   show some e.2.2=_
   rw[h3]
  ·have c':¬e.1=enc r:=fun z=>c (gh (h2.symm.trans z))
   have e1:dZ (e::L) (enc r)=dZ L (enc r):=by
    unfold dZ
    rw[List.find?_cons_of_neg (by simpa using c')]
   rw[e1,ih]
   by_cases m:r∈rs
   ·rw[if_pos m,if_pos (List.mem_cons_of_mem _ m),List.idxOf_cons,show(r0==r)=false from by simpa using c]
    simp
    omega
   ·rw[if_neg m,if_neg (fun z=>by rcases List.mem_cons.mp z with z|z;exact c z.symm;exact m z)]
end L2
namespace Ord
open PySem L2 Mx
abbrev vQ:Stmt:=top 19
def sy (s:Stmt):List Stmt:=match s with
 | .ClassDef _ _ _ b _ _ _ _ _ _ _=>b
 | _=>[]
abbrev ue:Stmt:=(sy vQ).getD 0 (.Pass ⟨0,0,0,0⟩)
abbrev oE:Stmt:=(sy vQ).getD 1 (.Pass ⟨0,0,0,0⟩)
structure ShC (K:W.Frag) (C:Addr):Prop where
 cls:Cls K C
 rooms:fM K C "rooms"
 numbers:fM K C "numbers"
def kS (L:NL3) (rs:List Bk.Room):Prop:=L.length=rs.length∧∀(i:Nat) (e:List (List Int)×Addr×Int),L[i]?=some e->∃r,rs[i]?=some r∧e.1=enc r∧e.2.2=(i:Int)+2
structure ShA (K:W.Frag) (C:Addr) (H:Hp) (x lr dn:Addr) (rs:List Bk.Room):Prop where
 ex:∃dx xs L,H x=some (.ins C dx [("rooms",.ref lr),("numbers",.ref dn)])∧H lr=some (.lst xs)∧Paired (aV K H) xs rs∧H dn=some (eP dn L)∧iJ K H L∧kS L rs
section
variable {P:Program}{w:World}{K:W.Frag}{mg:Str->Option Value}{base:Heap}{CO C:Addr}
def vR (K:W.Frag) (C:Addr):Sp:=fun vs H Q _=>∃(x dx:Addr),vs=[.ref x]∧H x=some (.ins C dx [])∧∀(lr dn:Addr) (H':Hp),H lr=none->H dn=none->(∀b o,b≠x->H b=some o->H' b=some o)->ShA K C H' x lr dn []->Q .non H'
theorem A0:FnScope ["self"] ["self"] (ap ue):=⟨rfl,rfl,rfl,by decide +kernel,rfl,by decide +kernel,by decide +kernel⟩
theorem zL {f:Addr}{fd:FuncData}(F:Fun K "__init__" "Shelf.__init__" ue f fd) (c:ShC K C):FnOk P w K mg base CX0 1 f fd ["self"] (vR K C):=by
 refine F.ok A0 (fun vs H Q E h=>?_) (fun cdv A outer s H vs Q E hr h=>?_)
 ·obtain⟨x,dx,rfl,_⟩:=h
  rfl
 obtain⟨x,dx,rfl,hx,z⟩:=h
 refine⟨_,ai (uK (pv 0) (aO ae) rfl) (am (uK (pv 0) wR rfl)),?_⟩
 refine⟨by show 0≤sizeLine;decide,fun lr hlr=>?_⟩
 have n1:x≠lr:=ar hx hlr
 refine⟨_,rfl,x,C,dx,[],rfl,by rw[aq n1];exact hx,c.cls,c.rooms,by decide,?_⟩
 intro dn hdn
 have n2:x≠dn:=ar ag hdn
 have n3:lr≠dn:=fun e=>by
  subst e
  rw[aq (Ne.symm n1),ag] at hdn
  cases hdn
 have hdn':H dn=none:=by
  rw[aq (Ne.symm n2),aq (Ne.symm n3)] at hdn
  exact hdn
 refine⟨_,rfl,x,C,dx,[("rooms",.ref lr)],rfl,by rw[aq n2,ag];rfl,c.cls,c.numbers,by show 1<1000;decide,?_⟩
 refine z lr dn _ hlr hdn' (fun b o nb e=>?_) ⟨dx,[],[],?_,?_,.nil,?_,(fun e h=>nomatch h),rfl,(fun i e h=>nomatch h)⟩
 ·rw[aq nb,aq (ar e hdn'),aq nb,aq (ar e hlr)]
  exact e
 ·rw[ag];rfl
 ·rw[aq (Ne.symm n1),aq n3,aq (Ne.symm n1),ag]
 ·rw[aq (Ne.symm n2),ag]
theorem aV.soft {H:Hp}{d:Addr}{o u:HO}{x:V}{r:Bk.Room}(hd:H d=some o) (so:fF o) (h:aV K H x r):aV K (upd H d u) x r:=by
 obtain⟨a,xs,e,q,z⟩:=h
 exact⟨a,xs,e,q.soft hd so,ay (fun _ _ ⟨p,e,q⟩=>⟨p,e,q.soft hd so⟩) z⟩
theorem kS.val {L:NL3}{rs:List Bk.Room}(h:kS L rs) (r:Bk.Room):dZ L (enc r)=if r∈rs then some (((rs.idxOf r:Nat):Int)+2) else none:=sx h.1 h.2
theorem kS.snoc {L:NL3}{rs:List Bk.Room}(h:kS L rs) (r:Bk.Room) (b:Addr):kS (L++[(enc r,b,(rs.length:Int)+2)]) (rs++[r]):=by
 refine⟨by rw[List.length_append,List.length_append,h.1];rfl,fun i e he=>?_⟩
 by_cases hi:i<L.length
 ·rw[List.getElem?_append_left hi] at he
  obtain⟨r',g1,g2,g3⟩:=h.2 i e he
  exact⟨r',by rw[List.getElem?_append_left (by rw[←h.1];exact hi)];exact g1,g2,g3⟩
 ·have hl:=(List.getElem?_eq_some_iff.mp he).1
  rw[List.length_append] at hl
  have hi':i=L.length:=by simp at hl;omega
  subst hi'
  rw[List.getElem?_append_right (Nat.le_refl _)] at he
  simp at he
  subst he
  exact⟨r,by rw[h.1,List.getElem?_append_right (Nat.le_refl _)];simp,rfl,by rw[h.1]⟩
def qH (K:W.Frag) (C:Addr):Sp:=fun vs H Q _=>∃(x lr dn:Addr) (rs:List Bk.Room) (y:V) (r:Bk.Room),vs=[.ref x,y]∧ShA K C H x lr dn rs∧aV K H y r∧rs.length<1000∧
 ∀H',(∀b o,b≠lr->b≠dn->H b=some o->H' b=some o)->ShA K C H' x lr dn (Bk.keep rs r).2->Q (.int ((Bk.keep rs r).1:Nat)) H'
theorem A1:FnScope ["self","room"] ["self","room"] (ap oE):=⟨rfl,rfl,rfl,by decide +kernel,rfl,by decide +kernel,by decide +kernel⟩
theorem zM {f:Addr}{fd:FuncData}(F:Fun K "keep" "Shelf.keep" oE f fd) (T:TxB K mg CO) (c:ShC K C):FnOk P w K mg base CX0 1 f fd ["self","room"] (qH K C):=by
 refine F.ok A1 (fun vs H Q E h=>?_) (fun cdv A outer s H vs Q E hr h=>?_)
 ·obtain⟨x,lr,dn,rs,y,r,rfl,_⟩:=h
  rfl
 obtain⟨x,lr,dn,rs,y,r,rfl,S,ra,few,z⟩:=h
 obtain⟨dx,xs,L,hx,hlr,pr,hdn,hk,nl⟩:=S.ex
 obtain⟨b,ys,rfl,qb,pb⟩:=id ra
 obtain⟨t2,m2⟩:=T.low
 have hu:(cQ CX0 P w K mg base ["self","room"] "Shelf.keep" (ap oE) f cdv A outer s H E).nox.A.units+2<cLine:=by have:=hr.un;show(A.deeper _).units+2<cLine;omega
 refine⟨_,ai (aK (aD (u8 hu) (pv 1) (gX (pv 0) rfl) rfl)
   (ai (ze hu (gX (pv 0) rfl) (pv 1) (aw bB (aB aR rfl T.t.len cp (ac (gX (pv 0) rfl) ae)) (bH (v:=.int 2) rfl m2 ⟨t2,rfl⟩)) rfl)
   (am (br (eG PySem.F.plainAttrs_list PySem.F.slot_list_append PySem.F.type_list_append dB (gX (pv 0) rfl) (ac (pv 1) ae))))) ax)
  (am (aH (zd hu (gX (pv 0) rfl) (pv 1) (fun _ _=>rfl)))),?_⟩
 have hlen:=pr.length
 have n1:x≠lr:=oj hx hlr (fun h=>nomatch h)
 have n2:x≠dn:=oj hx hdn (fun h=>nomatch h)
 have n3:lr≠dn:=oj hlr hdn (fun h=>nomatch h)
 refine⟨_,rfl,_,rfl,x,C,dx,_,.ref dn,rfl,hx,c.cls,c.numbers,rfl,dn,L,b,enc r,rfl,rfl,hdn,hk,ra.rep,_,rfl,?_⟩
 rw[nl.val r]
 by_cases m:r∈rs
 ·rw[if_pos m]
  refine aM ?_
  have ek:Bk.keep rs r=(rs.idxOf r+2,rs):=by unfold Bk.keep;rw[if_pos m]
  rw[ek] at z
  refine⟨_,rfl,x,C,dx,_,.ref dn,rfl,hx,c.cls,c.numbers,rfl,_,rfl,dn,L,b,enc r,_,rfl,rfl,hdn,hk,ra.rep,(nl.val r).trans (if_pos m),?_⟩
  exact z H (fun b o _ _ e=>e) S
 ·rw[if_neg m]
  refine aJ ?_
  have ek:Bk.keep rs r=(rs.length+2,rs++[r]):=by unfold Bk.keep;rw[if_neg m]
  rw[ek] at z
  refine⟨_,rfl,x,C,dx,_,.ref lr,rfl,hx,c.cls,c.rooms,rfl,lr,xs,rfl,.inl (.inl (.inl hlr)),_,2,rfl,rfl,_,rfl,x,C,dx,_,.ref dn,rfl,hx,c.cls,c.numbers,rfl,_,rfl,dn,L,b,enc r,_,rfl,rfl,rfl,hdn,hk,ra.rep,(nl.val r).trans (if_neg m),by rw[nl.1,sizeLine_eq];omega,?_⟩
  have sd:fF (eP dn L):=trivial
  have hlr1:∀u,upd H dn u lr=some (.lst xs):=fun u=>by rw[aq n3];exact hlr
  have hx1:∀u,upd H dn u x=some (.ins C dx [("rooms",.ref lr),("numbers",.ref dn)]):=fun u=>by rw[aq n2];exact hx
  have sl:fF (.lst xs):=trivial
  refine⟨_,rfl,x,C,dx,_,.ref lr,rfl,hx1 _,c.cls,c.rooms,rfl,.inl ⟨rfl,_,.inl (.inl (hlr1 _))⟩,_,rfl,lr,xs,.ref b,rfl,rfl,hlr1 _,by rw[sizeLine_eq];omega,?_⟩
  have eL:(xs.length:Int)+2=(rs.length:Int)+2:=by omega
  have nl':kS (L++[(enc r,b,(xs.length:Int)+2)]) (rs++[r]):=by rw[eL];exact nl.snoc r b
  have ra':∀{y:V}{r':Bk.Room}{u v:HO},aV K H y r'->aV K (upd (upd H dn u) lr v) y r':=fun h=>(h.soft hdn sd).soft (hlr1 _) sl
  have kk:∀{u v:HO},iJ K (upd (upd H dn u) lr v) (L++[(enc r,b,(xs.length:Int)+2)]):=fun {u v} e he=>by
   rcases List.mem_append.mp he with h|h
   ·exact iW (hlr1 _) sl (iW hdn sd (hk e h))
   ·rw[List.mem_singleton.mp h]
    exact(ra' ra).rep
  have hx2:∀u v,upd (upd H dn u) lr v x=some (.ins C dx [("rooms",.ref lr),("numbers",.ref dn)]):=fun u v=>by rw[aq n1];exact hx1 u
  have hdn2:∀u v,upd (upd H dn u) lr v dn=some u:=fun u v=>by rw[aq (Ne.symm n3),ag]
  refine⟨_,rfl,x,C,dx,_,.ref dn,rfl,hx2 _ _,c.cls,c.numbers,rfl,_,rfl,dn,_,b,enc r,(xs.length:Int)+2,rfl,rfl,hdn2 _ _,kk,(ra' ra).rep,?_,?_⟩
  ·have h1:=nl'.val r
   rw[if_pos (List.mem_append_right _ List.mem_cons_self)] at h1
   rw[h1,List.idxOf_append,if_neg m]
   simp
   omega
  ·have:=z _ (fun b o h1 h2 e=>by rw[aq h1,aq h2];exact e) ⟨dx,_,_,hx2 _ _,ag,bL (ay (fun _ _ h=>ra' h) pr) (.cons (ra' ra) .nil),hdn2 _ _,kk,nl'⟩
   rw[show((rs.length+2:Nat):Int)=(xs.length:Int)+2 by omega] at this
   exact this
end
end Ord
namespace Ord
open PySem L2 Mx
section
variable {K:W.Frag}
def ez (K:W.Frag) (H0:Hp) (dP:Addr) (H:Hp) (kv:Key×V) (e:Int×Bk.ao):Prop:=∃a vs,kv=(Sum.inl e.1,.ref a)∧H0 a=none∧a≠dP∧H a=some (.lst vs)∧Paired (av.rep K H) vs e.2
structure PartA (K:W.Frag) (H0:Hp) (dP:Addr) (H:Hp) (kvs:List (Key×V)) (g:List (Int×Bk.ao)):Prop where
 at_:H dP=some (.dK kvs)
 grp:Paired (ez K H0 dP H) kvs g
 nd:(kvs.map (·.2)).Nodup
theorem ez.soft {H0 H:Hp}{dP d:Addr}{kv:Key×V}{e:Int×Bk.ao}{o u:HO}(hd:H d=some o) (so:fF o) (ne:kv.2≠.ref d) (h:ez K H0 dP H kv e):ez K H0 dP (upd H d u) kv e:=by
 obtain⟨a,vs,rfl,h1,h2,h3,h4⟩:=h
 exact⟨a,vs,rfl,h1,h2,by rw[aq (fun z=>ne (by rw[z]))];exact h3,ay (fun _ _ z=>dI hd so z) h4⟩
theorem ez.same {H0 H H':Hp}{dP:Addr}{kv:Key×V}{e:Int×Bk.ao}(s:au H H') (h:ez K H0 dP H kv e):ez K H0 dP H' kv e:=by
 obtain⟨a,vs,rfl,h1,h2,h3,h4⟩:=h
 exact⟨a,vs,rfl,h1,h2,s _ _ h3,ay (fun _ _ z=>av.mono s z) h4⟩
theorem mO {H0 H:Hp}{dP:Addr}{k:Int}:∀{kvs:List (Key×V)}{g:List (Int×Bk.ao)},Paired (ez K H0 dP H) kvs g->(cf kvs (.inl k)=none∧k∉g.map (·.1))∨∃a vs,cf kvs (.inl k)=some (.ref a)∧k∈g.map (·.1)∧V.ref a∈kvs.map (·.2)∧H0 a=none∧a≠dP∧H a=some (.lst vs)∧∃e∈g,vs.length=e.2.length
 | _,_,.nil=>.inl ⟨rfl,(fun h=>nomatch h)⟩
 | kv::kvs,e::g,.cons h t=>by
  obtain⟨a,vs,rfl,h1,h2,h3,h4⟩:=h
  by_cases c:e.1=k
  ·subst c
   exact .inr ⟨a,vs,dD rfl,List.mem_map.mpr ⟨e,List.mem_cons_self,rfl⟩,List.mem_cons_self,h1,h2,h3,e,List.mem_cons_self,h4.length⟩
  ·rw[dE (fun z=>c (Sum.inl.inj z))]
   rcases mO (k:=k) t with⟨b1,b2⟩|⟨a',vs',b1,b2,b3,b4,b5,b6,e',b7,b8⟩
   ·exact .inl ⟨b1,fun z=>by rcases List.mem_cons.mp z with z|z;exact c z.symm;exact b2 z⟩
   ·exact .inr ⟨a',vs',b1,List.mem_cons_of_mem _ b2,List.mem_cons_of_mem _ b3,b4,b5,b6,e',List.mem_cons_of_mem _ b7,b8⟩
theorem qI {H0 H:Hp}{dP a:Addr}{vs:List V}{y:V}{o:List Int}{k:Int}(hy:av.rep K H y o) (ha:H a=some (.lst vs)):∀{kvs:List (Key×V)}{g:List (Int×Bk.ao)},Paired (ez K H0 dP H) kvs g->(kvs.map (·.2)).Nodup->(g.map (·.1)).Nodup->cf kvs (.inl k)=some (.ref a)->
  Paired (ez K H0 dP (upd H a (.lst (vs++[y])))) kvs (g.map fun e=>if e.1=k then (e.1,e.2++[o]) else e)
 | _,_,.nil,_,_,h=>nomatch h
 | kv::kvs,e::g,.cons h t,nd,nk,hv=>by
  rw[List.map_cons,List.nodup_cons] at nd nk
  have hg:=h
  obtain⟨a',vs',rfl,h1,h2,h3,h4⟩:=h
  rw[List.map_cons]
  by_cases c:e.1=k
  ·subst c
   rw[dD rfl] at hv
   cases hv
   rw[ha] at h3
   cases h3
   rw[if_pos rfl]
   have rest:∀{kvs:List (Key×V)}{g:List (Int×Bk.ao)},Paired (ez K H0 dP H) kvs g->V.ref a∉kvs.map (·.2)->e.1∉g.map (·.1)->Paired (ez K H0 dP (upd H a (.lst (vs++[y])))) kvs (g.map fun e'=>if e'.1=e.1 then (e'.1,e'.2++[o]) else e'):=by
    intro kvs g t
    induction t with
    | nil=>intro _ _;exact .nil
    | @cons kv0 e0 kvs g h _ ih=>
     intro n1 n2
     rw[List.map_cons,List.mem_cons,not_or] at n1 n2
     rw[List.map_cons,if_neg (Ne.symm n2.1)]
     exact .cons (h.soft ha trivial (Ne.symm n1.1)) (ih n1.2 n2.2)
   refine .cons ⟨a,vs++[y],rfl,h1,h2,ag,bL (ay (fun _ _ z=>dI ha trivial z) h4) (.cons (dI ha trivial hy) .nil)⟩ (rest t nd.1 nk.1)
  ·rw[if_neg c]
   rw[dE (fun z=>c (Sum.inl.inj z))] at hv
   have na:V.ref a'≠V.ref a:=fun z=>by
    have:∀{kvs:List (Key×V)},cf kvs (.inl k)=some (.ref a)->V.ref a∈kvs.map (·.2):=by
     intro kvs
     induction kvs with
     | nil=>intro h;cases h
     | cons kv kvs ih=>
      intro h
      by_cases c:kv.1=.inl k
      ·rw[dD c] at h
       exact List.mem_cons.mpr (.inl (Option.some.inj h).symm)
      ·rw[dE c] at h
       exact List.mem_cons_of_mem _ (ih h)
    exact nd.1 (z▸this hv)
   exact .cons (hg.soft ha trivial na) (qI hy ha t nd.2 nk.2 hv)
theorem lW (p:Nat) (os:Bk.ao):(Bk.bN p os).length≤os.length:=
 Bk.mM (P:=fun os=>(Bk.bN p os).length≤os.length) (Nat.le_refl _) (fun l x ih=>by
  rw[Bk.eB,List.length_append]
  unfold Bk.jC
  split
  ·rw[List.length_map];simp;omega
  ·rw[List.length_append];simp;omega) os
theorem PartA.more {H0 H:Hp}{dP a e0:Addr}{kvs:List (Key×V)}{vs:List V}{p:Nat}{os:Bk.ao}{y:V}{o:List Int}(h:PartA K H0 dP H kvs (Bk.bN p os)) (he0:H e0=none) (hy:av.rep K H y o)
  (hv:cf kvs (.inl (Bk.atP p o))=some (.ref a)) (hk:Bk.atP p o∈(Bk.bN p os).map (·.1)) (ha:H a=some (.lst vs)) (nd:a≠dP):PartA K H0 dP (upd (upd H e0 (.lst [])) a (.lst (vs++[y]))) kvs (Bk.bN p (os++[o])):=by
 have s1:au H (upd H e0 (.lst [])):=af he0 _
 rw[Bk.eB]
 unfold Bk.jC
 rw[if_pos hk]
 refine⟨?_,qI (av.mono s1 hy) (s1 _ _ ha) (ay (fun _ _ z=>z.same s1) h.grp) h.nd (Bk.eY p os).nd hv,h.nd⟩
 rw[aq (Ne.symm nd)]
 exact s1 _ _ h.at_
theorem PartA.fresh {H0 H:Hp}{dP e0:Addr}{kvs:List (Key×V)}{p:Nat}{os:Bk.ao}{y:V}{o:List Int}(h:PartA K H0 dP H kvs (Bk.bN p os)) (he0:H e0=none) (h0:H0 e0=none) (hy:av.rep K H y o)
  (hv:cf kvs (.inl (Bk.atP p o))=none) (hk:Bk.atP p o∉(Bk.bN p os).map (·.1)) :
  PartA K H0 dP (upd (upd (upd H e0 (.lst [])) dP (.dK (cG kvs (.inl (Bk.atP p o)) (.ref e0)))) e0 (.lst ([]++[y]))) (kvs++[(.inl (Bk.atP p o),.ref e0)]) (Bk.bN p (os++[o])):=by
 have s1:au H (upd H e0 (.lst [])):=af he0 _
 have ned:dP≠e0:=ar h.at_ he0
 have ep:cG kvs (.inl (Bk.atP p o)) (.ref e0)=kvs++[(.inl (Bk.atP p o),.ref e0)]:=by
  unfold cG
  rw[iH,hv,if_neg (by decide)]
 have hdP:(upd H e0 (.lst [])) dP=some (.dK kvs):=s1 _ _ h.at_
 have he1:∀u,(upd (upd H e0 (.lst [])) dP u) e0=some (.lst []):=fun u=>by rw[aq (Ne.symm ned),ag]
 have far:∀{kvs:List (Key×V)}{g:List (Int×Bk.ao)},Paired (ez K H0 dP H) kvs g->∀kv∈kvs,kv.2≠.ref dP∧kv.2≠.ref e0:=by
  intro kvs g t kv hkv
  obtain⟨e,_,a,vs,rfl,_,h2,h3,_⟩:=eO t kv hkv
  exact⟨fun z=>h2 (V.ref.inj z),fun z=>by
   have:a=e0:=V.ref.inj z
   rw[this,he0] at h3
   cases h3⟩
 have old:∀{kvs:List (Key×V)}{g:List (Int×Bk.ao)}{u v:HO},Paired (ez K H0 dP H) kvs g->(∀kv∈kvs,kv.2≠.ref dP∧kv.2≠.ref e0)->Paired (ez K H0 dP (upd (upd (upd H e0 (.lst [])) dP u) e0 v)) kvs g:=by
  intro kvs g u v t
  induction t with
  | nil=>intro _;exact .nil
  | cons h _ ih=>
   intro f
   obtain⟨f1,f2⟩:=f _ List.mem_cons_self
   exact .cons (((h.same s1).soft hdP trivial f1).soft (he1 u) trivial f2) (ih fun kv hkv=>f kv (List.mem_cons_of_mem _ hkv))
 rw[Bk.eB]
 unfold Bk.jC
 rw[if_neg hk]
 refine⟨by rw[aq ned,ag,ep],bL (old h.grp (far h.grp)) (.cons ⟨e0,[]++[y],rfl,h0,Ne.symm ned,ag,.cons (dI (he1 _) trivial (dI hdP trivial (av.mono s1 hy))) .nil⟩ .nil),?_⟩
 rw[List.map_append,List.nodup_append]
 refine⟨h.nd,by simp,fun x hx y' hy'=>?_⟩
 obtain⟨kv,hkv,rfl⟩:=List.mem_map.mp hx
 have:y'=V.ref e0:=by simpa using hy'
 rw[this]
 exact(far h.grp kv hkv).2
end
end Ord
namespace Bk
open Mx
theorem kD (b:Int->Nat):∀(ts:List Int) (i:Nat),((ts.take i).map b).sum≤(ts.map b).sum
 | [],i=>by simp
 | t::ts,0=>Nat.zero_le _
 | t::ts,i+1=>by
  have:=kD b ts i
  rw[List.take_succ_cons,List.map_cons,List.map_cons,List.sum_cons,List.sum_cons]
  omega
theorem lX {n:Nat}{os:ao}{rs:List Room}{i:Nat}{t:Int}(h:(heads os)[i]?=some t) :
  (aN (lay n) os ((heads os).take i) rs).2.length+(rests t os).length*n≤rs.length+os.length*n∧(aN (lay n) os ((heads os).take i) rs).2.length≤rs.length+os.length*n:=by
 have nd:(heads os).Nodup:=(cr os).imp fun h e=>absurd h (by rw[e];omega)
 have h1:=iR (f:=lay n) (os:=os) (b:=fun t=>(rests t os).length*n) ((heads os).take i) rs fun t ht rs=>by
  obtain⟨_,r,hr⟩:=bF.mp (List.mem_of_mem_take ht)
  exact gJ n (rests t os) rs fun e=>by
   have:=aZ.mpr hr
   rw[e] at this
   cases this
 have h2:=kD (fun t=>(rests t os).length*n) (heads os) (i+1)
 rw[List.take_add_one,h,Option.toList_some,List.map_append,List.sum_append] at h2
 simp only[List.map_cons,List.map_nil,List.sum_cons,List.sum_nil] at h2
 have h3:((heads os).map fun t=>(rests t os).length*n).sum≤os.length*n:=by
  rw[j0 n (fun t=>(rests t os).length)]
  exact Nat.mul_le_mul_right n (gI (heads os) os nd)
 omega
theorem kE {n:Nat}{os:ao}{rs:List Room}:(aN (lay n) os (heads os) rs).2.length≤rs.length+os.length*n:=by
 have nd:(heads os).Nodup:=(cr os).imp fun h e=>absurd h (by rw[e];omega)
 have h1:=iR (f:=lay n) (os:=os) (b:=fun t=>(rests t os).length*n) (heads os) rs fun t ht rs=>by
  obtain⟨_,r,hr⟩:=bF.mp ht
  exact gJ n (rests t os) rs fun e=>by
   have:=aZ.mpr hr
   rw[e] at this
   cases this
 have h3:((heads os).map fun t=>(rests t os).length*n).sum≤os.length*n:=by
  rw[j0 n (fun t=>(rests t os).length)]
  exact Nat.mul_le_mul_right n (gI (heads os) os nd)
 omega
end Bk
namespace L2
open PySem
theorem A2 {kvs:List (Key×V)}:∀{i:Nat}{kv:Key×V},(kvs.map (·.1)).Nodup->kvs[i]?=some kv->cf kvs kv.1=some kv.2:=by
 induction kvs with
 | nil=>intro i kv _ h;simp at h
 | cons k0 kvs ih=>
  intro i kv nd h
  rw[List.map_cons,List.nodup_cons] at nd
  cases i with
  | zero=>simp at h;subst h;exact dD rfl
  | succ i=>
   have h':kvs[i]?=some kv:=by simpa using h
   rw[dE (fun z=>nd.1 (by rw[z];exact List.mem_map.mpr ⟨kv,List.mem_of_getElem? h',rfl⟩))]
   exact ih nd.2 h'
end L2
namespace Ord
open PySem L2 Mx
section
variable {K:W.Frag}{C:Addr}{H H' H'':Hp}{x lr dn:Addr}{rs:List Bk.Room}
def cT (lr dn:Addr) (H H':Hp):Prop:=∀b o,b≠lr->b≠dn->H b=some o->H' b=some o
theorem cT.refl:cT lr dn H H:=fun _ _ _ _ e=>e
theorem cT.trans (s:cT lr dn H H') (s':cT lr dn H' H''):cT lr dn H H'':=fun b o h1 h2 e=>s' b o h1 h2 (s b o h1 h2 e)
theorem cT.of (s:au H H'):cT lr dn H H':=fun b o _ _ e=>s b o e
theorem cT.seqT {a:Addr}{xs rx:List V}{L:NL3}(s:cT lr dn H H') (hlr:H lr=some (.lst rx)) (hdn:H dn=some (eP dn L)) (h:SqT K H a xs):SqT K H' a xs:=by
 rcases h with(h|⟨o,h⟩)|h
 ·exact .inl (.inl (s _ _ (by rintro rfl;rw[hlr] at h;cases h) (by rintro rfl;rw[hdn] at h;cases h) h))
 ·exact .inl (.inr ⟨o,s _ _ (by rintro rfl;rw[hlr] at h;cases h) (by rintro rfl;rw[hdn] at h;cases h) h⟩)
 ·exact .inr h
theorem cA.sameS {y:V}{d:Int×Int}{rx:List V}{L:NL3}(s:cT lr dn H H') (hlr:H lr=some (.lst rx)) (hdn:H dn=some (eP dn L)) (h:cA K H y d):cA K H' y d:=by
 obtain⟨p,e,q⟩:=h
 exact⟨p,e,s.seqT hlr hdn q⟩
theorem uf {y:V}{o:List Int}{rx:List V}{L:NL3}(s:cT lr dn H H') (hlr:H lr=some (.lst rx)) (hdn:H dn=some (eP dn L)) (h:av.rep K H y o):av.rep K H' y o:=by
 obtain⟨p,rfl,q⟩:=ck h
 exact cj (s.seqT hlr hdn q)
theorem ShA.same (s:au H H') (h:ShA K C H x lr dn rs):ShA K C H' x lr dn rs:=by
 obtain⟨dx,xs,L,h1,h2,h3,h4,h5,h6⟩:=h.ex
 exact⟨dx,xs,L,s _ _ h1,s _ _ h2,ay (fun _ _ z=>z.same s) h3,s _ _ h4,fun e he=>ce.mono s (h5 e he),h6⟩
theorem ShA.upd {d:Addr}{o u:HO}(hd:H d=some o) (so:fF o) (n1:x≠d) (n2:lr≠d) (n3:dn≠d) (h:ShA K C H x lr dn rs):ShA K C (L2.upd H d u) x lr dn rs:=by
 obtain⟨dx,xs,L,h1,h2,h3,h4,h5,h6⟩:=h.ex
 exact⟨dx,xs,L,by rw[aq n1];exact h1,by rw[aq n2];exact h2,ay (fun _ _ z=>z.soft hd so) h3,by rw[aq n3];exact h4,fun e he=>iW hd so (h5 e he),h6⟩
end
end Ord
namespace Ord
open PySem L2 Mx
abbrev io:Stmt:=top 31
section
variable {P:Program}{w:World}{K:W.Frag}{mg:Str->Option Value}{base:Heap}{CO C:Addr}
def iX (K:W.Frag) (C:Addr) (n:Nat):Sp:=fun vs H Q _=>∃(x lr dn l:Addr) (rs:List Bk.Room) (p:Nat) (ys:List V) (os:Bk.ao),vs=[.ref x,.ref l,.int (p:Int)]∧ShA K C H x lr dn rs∧SqL K H l ys∧Paired (av.rep K H) ys os∧Bk.OrdsOk p n os∧os.length≤1000∧rs.length+os.length*n<1000∧
 ∀H',cT lr dn H H'->ShA K C H' x lr dn (Bk.lay n (os.map (List.drop p)) rs).2->Q (.int ((Bk.lay n (os.map (List.drop p)) rs).1:Nat)) H'
theorem iY:FnScope ["shelf","orders","place","parted","order","doors"] ["shelf","orders","place"] (ap io):=⟨rfl,rfl,rfl,by decide +kernel,rfl,by decide +kernel,by decide +kernel⟩
theorem lY {f fk:Addr}{fd fdk:FuncData}(F:Fun K "shelve" "shelve" io f fd) (T:TxB K mg CO) (c:ShC K C) (mk:Meth K C "keep" fk) (Fk:FnOk P w K mg base CX0 1 fk fdk ["self","room"] (qH K C)) (bk:cD K fdk ["self","room"] [])
  (n:Nat) (WS:∀m,n=m+1->Df P w K mg base CX0 (m+2) "shelve" ["shelf","orders","place"] (iX K C m)):FnOk P w K mg base CX0 (n+2) f fd ["shelf","orders","place"] (iX K C n):=by
 refine F.ok iY (fun vs H Q E h=>?_) (fun cdv A outer s H vs Q E hr h=>?_)
 ·obtain⟨x,lr,dn,l,rs,p,ys,os,rfl,_⟩:=h
  rfl
 obtain⟨x,lr,dn,l,rs,p,ys,os,rfl,S,ql,po,ok,few,fewr,z⟩:=h
 obtain⟨t1,m1⟩:=T.en
 cases n with
 | zero=>
  refine⟨_,ai (aK (aD cb (pv 2) (aB aR rfl T.t.len cp (ac (aU (show IxR _ (dA K) from bI) (pv 1) ak (fun _ _=>rfl)) ae)) (aG _)) (am (aH (bH (v:=.int 1) rfl m1 ⟨t1,rfl⟩))) ax) (ai aL (ai aL (ai aL (am aL)))),?_⟩
  obtain⟨o,ho⟩:=List.exists_mem_of_ne_nil os ok.ne
  have hp:0<os.length:=List.length_pos_of_mem ho
  obtain⟨y,hy,ro⟩:=dN po (List.getElem?_eq_getElem hp)
  obtain⟨a,rfl,qa⟩:=ck ro
  have la:=ok.len _ (List.getElem_mem hp)
  refine⟨_,rfl,_,rfl,l,_,0,.ref a,rfl,rfl,ql,aX (j:=0) hy,a,_,rfl,.inr qa,rfl,_,rfl,?_⟩
  rw[decide_eq_true (by rw[List.length_map,la];rfl)]
  exact aJ (z H (fun b o _ _ e=>e) S)
 | succ n=>
  have D:=WS n rfl
  refine⟨_,ai (aK (aD cb (pv 2) (aB aR rfl T.t.len cp (ac (aU (show IxR _ (dA K) from bI) (pv 1) ak (fun _ _=>rfl)) ae)) (aG _)) (am aL) ax)
   (ai (aI (i:=3) iY.nd rfl (Or.inr rfl) wQ)
   (ai (PS.nox (dz PassesOwn.never rfl (cH (pv 1)) (bA (i:=4) iY.nd rfl (Or.inl rfl))
    (am (br (eG PySem.F.plainAttrs_list PySem.F.slot_list_append PySem.F.type_list_append dB
     (eG PySem.F.plainAttrs_dict PySem.F.slot_dict_setdefault PySem.F.type_dict_setdefault n6 (pv 3) (ac (aU (show IxR _ (bZ K) from bv) (pv 4) (pv 2) (fun _ _=>rfl)) (ac (aO ae) ae))) (ac (pv 4) ae))))))
   (ai (si (i0:=5) iY.nd rfl (Or.inl rfl) rfl (show CScope (ap io) ["shelf","orders","place","parted","order","doors"] _ _ from by constructor <;> decide +kernel) (zh (pv 3)) (fun _ _ _ _ _ _=>fu)
     (fun cl C' s₂ H₂ fp aa=>aY (ac (pv 0) (ac (aS D hr rfl (bg (E:=fun _ _ _ _=>False)) (ac (pv 1) (ac (y7 (oq hr) (pv 4) (pv 0) (fun _ _=>rfl)) (ac (aw bB (pv 3) ak) ae)))) ae))) rfl)
   (am (aH (yJ (pv 0) c.cls mk Fk (hr.mono (by omega)) bk .nil xU (ac (bz eF rfl T.t.tuple eV (ac (pv 5) ae)) ae))))))),?_⟩
  obtain⟨o,ho⟩:=List.exists_mem_of_ne_nil os ok.ne
  have hp:0<os.length:=List.length_pos_of_mem ho
  obtain⟨y,hy,ro⟩:=dN po (List.getElem?_eq_getElem hp)
  obtain⟨a,rfl,qa⟩:=ck ro
  have la:=ok.len _ (List.getElem_mem hp)
  have hlen:=po.length
  refine⟨_,rfl,_,rfl,l,_,0,.ref a,rfl,rfl,ql,aX (j:=0) hy,a,_,rfl,.inr qa,rfl,_,rfl,?_⟩
  rw[decide_eq_false (fun h=>by have:=V.int.inj h;rw[List.length_map,la] at this;omega)]
  refine aM ?_
  intro dP hdP
  have s1:au H (upd H dP (.dK [])):=af hdP _
  refine⟨_,rfl,l,rfl,⟨_,s1.seqL ql⟩,fj (K:=K) (a:=l) (xs:=ys) (fun i σ H2=>∃v4 kvs,σ=[some (.ref x),some (.ref l),some (.int (p:Int)),some (.ref dP),v4,none]∧au H H2∧PartA K H dP H2 kvs (Bk.bN p (os.take i))) ⟨none,[],rfl,s1,ag,.nil,List.nodup_nil⟩ ?_ ?_ ?_⟩
  ·rintro i σ H2 _ ⟨v4,kvs,rfl,s2,_⟩
   exact s2.seqL ql
  ·rintro i y σ H2 hy ⟨v4,kvs,rfl,s2,PA⟩
   obtain⟨o,ho,ro⟩:=cw po hy
   obtain⟨a,rfl,qa⟩:=ck ro
   have lo:=ok.len o (List.mem_of_getElem? ho)
   have il:=(List.getElem?_eq_some_iff.mp ho).1
   have at_:atI (o.map V.int) (p:Int)=some (.int (Bk.atP p o)):=aX (by
    unfold Bk.atP
    rw[List.getElem?_map,List.getElem?_eq_getElem (show p<o.length by omega)]
    rfl)
   have gl:kvs.length≤i:=by
    have h1:=PA.grp.length
    have h2:=lW p (os.take i)
    rw[List.length_take] at h2
    omega
   refine⟨_,rfl,.inr (.inr (.inl ⟨rfl,.inl ⟨_,PA.at_⟩⟩)),_,rfl,_,rfl,a,_,(p:Int),.int (Bk.atP p o),rfl,rfl,s2.seqT qa,at_,by show 0≤sizeLine;decide,fun e0 he0=>?_⟩
   have s3:au H2 (upd H2 e0 (.lst [])):=af he0 _
   refine⟨dP,kvs,.inl (Bk.atP p o),.ref e0,rfl,rfl,s3 _ _ PA.at_,by rw[sizeLine_eq];omega,fun y' hv=>?_,fun hv=>?_⟩
   ·rcases mO (k:=Bk.atP p o) PA.grp with⟨b1,_⟩|⟨ga,vs,b1,b2,b3,b4,b5,b6,e,b7,b8⟩
    ·rw[b1] at hv;cases hv
    rw[b1] at hv
    cases hv
    have vl:vs.length≤os.length:=by
     rw[b8,(Bk.eY p (os.take i)).each e b7]
     refine Nat.le_trans (List.length_filter_le _ _) ?_
     rw[List.length_take]
     omega
    refine⟨.inl ⟨rfl,_,.inl (.inl (s3 _ _ b6))⟩,_,rfl,ga,vs,.ref a,rfl,rfl,s3 _ _ b6,by rw[sizeLine_eq];omega,_,kvs,rfl,fun b u q=>?_,?_⟩
    ·rw[aq (ar q b4)]
     exact s3 b u (s2 b u q)
    ·rw[bG ho]
     exact PA.more he0 (cj (s2.seqT qa)) b1 b2 b6 b5
   ·rcases mO (k:=Bk.atP p o) PA.grp with⟨b1,b2⟩|⟨ga,vs,b1,_⟩
    ·have ned:dP≠e0:=ar PA.at_ he0
     have he1:(upd (upd H2 e0 (.lst [])) dP (.dK (cG kvs (.inl (Bk.atP p o)) (.ref e0)))) e0=some (.lst []):=by rw[aq (Ne.symm ned),ag]
     refine⟨.inl ⟨rfl,_,.inl (.inl he1)⟩,_,rfl,e0,[],.ref a,rfl,rfl,he1,by decide,_,kvs++[(.inl (Bk.atP p o),.ref e0)],rfl,fun b u q=>?_,?_⟩
     ·rw[aq (ar q (s2.free he0)),aq (ar q hdP)]
      exact s3 b u (s2 b u q)
     ·rw[bG ho]
      exact PA.fresh he0 (s2.free he0) (cj (s2.seqT qa)) b1 b2
    ·rw[b1] at hv;cases hv
  ·rintro σ H2 ⟨v4,kvs,rfl,s2,PA⟩
   rw[hlen,List.take_length] at PA
   have S':=S
   obtain⟨dx,rx,L,hx,hlr,prs,hdn,hkk,nl⟩:=S.ex
   have ldP:lr≠dP:=ar hlr hdP
   have ndP:dn≠dP:=ar hdn hdP
   have keys:=ok.keys
   have gl:kvs.length=(Bk.bN p os).length:=PA.grp.length
   have gk:(Bk.bN p os).length=(Bk.heads (os.map (List.drop p))).length:=by rw[←keys,List.length_map]
   have glen:=lW p os
   refine⟨_,rfl,dP,kvs,rfl,PA.at_,fun ob=>?_⟩
   have dPs:fF (.dK kvs):=trivial
   have xdP:x≠dP:=ar hx hdP
   have S2:ShA K C (upd H2 dP (.frz ob (.dK kvs))) x lr dn rs:=(S.same s2).upd PA.at_ dPs xdP ldP ndP
   have kn:(kvs.map (·.1)).Nodup:=by
    have e:∀{kvs:List (Key×V)}{g:List (Int×Bk.ao)},Paired (ez K H dP H2) kvs g->kvs.map (·.1)=g.map fun e=>Sum.inl e.1:=by
     intro kvs g t
     induction t with
     | nil=>rfl
     | cons h _ ih=>
      obtain⟨a,vs,rfl,_⟩:=h
      rw[List.map_cons,List.map_cons,ih]
    rw[e PA.grp]
    have:=(Bk.eY p os).nd
    unfold List.Nodup at this ⊢
    rw[List.pairwise_map] at this ⊢
    exact this.imp fun h z=>h (Sum.inl.inj z)
   refine va (a:=dP) (ob:=ob) (kvs:=kvs) (fun i ds H3=>cT lr dn (upd H2 dP (.frz ob (.dK kvs))) H3∧ShA K C H3 x lr dn (Bk.aN (Bk.lay n) (os.map (List.drop p)) ((Bk.heads (os.map (List.drop p))).take i) rs).2∧Paired (cA K H3) ds (Bk.aN (Bk.lay n) (os.map (List.drop p)) ((Bk.heads (os.map (List.drop p))).take i) rs).1∧ds.length=i) ⟨cT.refl,S2,.nil,rfl⟩ ?_ (by rw[sizeLine_eq];omega) ?_ ?_
   ·rintro i ds H3 hi ⟨s3,_,_,hl⟩
    exact⟨s3 _ _ (Ne.symm ldP) (Ne.symm ndP) ag,by omega⟩
   ·rintro i kv ds H3 hkv ⟨s3,S3,p3,hl⟩
    obtain⟨e,he,ga,vs,rfl,g1,g2,g3,g4⟩:=cw PA.grp hkv
    have mem:=List.mem_of_getElem? he
    obtain⟨oke,rst,ele⟩:=ok.group mem
    have ht:(Bk.heads (os.map (List.drop p)))[i]?=some e.1:=by rw[←keys,List.getElem?_map,he];rfl
    obtain⟨bd1,bd2⟩:=Bk.lX (n:=n) (rs:=rs) ht
    have lr2:e.2.length=(Bk.rests e.1 (os.map (List.drop p))).length:=by rw[←rst,List.length_map]
    rw[List.length_map,←lr2] at bd1
    have mul:List.length os*(n+1)=List.length os*n+List.length os:=Nat.mul_succ _ _
    have hdP3:=s3 _ _ (Ne.symm ldP) (Ne.symm ndP) (ag (H:=H2) (a:=dP) (o:=.frz ob (.dK kvs)))
    have nga:ga≠lr∧ga≠dn:=⟨(fun z=>by rw[z,hlr] at g1;cases g1),(fun z=>by rw[z,hdn] at g1;cases g1)⟩
    have hg3:H3 ga=some (.lst vs):=s3 _ _ nga.1 nga.2 (by rw[aq g2];exact g3)
    have hlr2:(upd H2 dP (.frz ob (.dK kvs))) lr=some (.lst rx):=by rw[aq ldP];exact s2 _ _ hlr
    have hdn2:(upd H2 dP (.frz ob (.dK kvs))) dn=some (eP dn L):=by rw[aq ndP];exact s2 _ _ hdn
    have rv:Paired (av.rep K H3) vs e.2:=ay (fun _ _ z=>uf s3 hlr2 hdn2 (dI PA.at_ dPs z)) g4
    refine goT (aJ ?_)
    refine⟨_,rfl,_,rfl,_,rfl,_,rfl,dP,.ref ga,rfl,.inl ⟨kvs,.inl e.1,.inr ⟨ob,hdP3⟩,rfl,(A2 kn hkv).symm⟩,_,rfl,(p:Int),1,rfl,rfl,x,lr,dn,ga,_,p+1,vs,e.2,rfl,S3,.inl (.inl hg3),rv,oke,by omega,by omega,fun H4 s4 S4=>?_⟩
    rw[rst] at S4 ⊢
    refine⟨by show 2≤sizeLine;decide,fun tq htq=>?_⟩
    obtain⟨dx3,rx3,L3,_,hlr3,_,hdn3,_⟩:=S3.ex
    have s5:=af htq (.tup [V.int e.1,V.int ((Bk.lay n (Bk.rests e.1 (os.map (List.drop p))) (Bk.aN (Bk.lay n) (os.map (List.drop p)) ((Bk.heads (os.map (List.drop p))).take i) rs).2).1:Nat)])
    rw[bG ht,Bk.gK]
    refine⟨s3.trans (s4.trans (cT.of s5)),S4.same s5,bL (ay (fun _ _ z=>(z.sameS s4 hlr3 hdn3).same s5) p3) (.cons ⟨tq,rfl,SqT.up⟩ .nil),by simp;omega⟩
   ·rintro ds H3 c0 ⟨s3,S3,p3,hl⟩ hc0
    rw[gl,gk,List.take_length] at S3 p3
    have s4:au H3 (upd H3 c0 (.lst ds)):=af hc0 _
    have S4:=S3.same s4
    obtain⟨dx4,_,_,hx4,_⟩:=S4.ex
    refine⟨_,rfl,x,dx4,_,rfl,hx4,rfl,_,rfl,c0,ds,rfl,.inl ⟨SqL.up,fun r0 hr0=>?_⟩⟩
    have s5:=af hr0 (.tup ds)
    have db:=Bk.kE (n:=n) (os:=os.map (List.drop p)) (rs:=rs)
    rw[List.length_map] at db
    have mul:List.length os*(n+1)=List.length os*n+List.length os:=Nat.mul_succ _ _
    refine⟨x,lr,dn,_,.ref r0,_,rfl,S4.same s5,⟨r0,ds,rfl,SqT.up,ay (fun _ _ z=>z.same (s4.trans s5)) p3⟩,by omega,fun H6 s6 S6=>?_⟩
    refine z H6 (fun b u h1 h2 q=>?_) S6
    refine s6 b u h1 h2 (s5 b u (s4 b u (s3 b u h1 h2 ?_)))
    rw[aq (ar q hdP)]
    exact s2 b u q
theorem nS {f fk:Addr}{fd fdk:FuncData}(F:Fun K "shelve" "shelve" io f fd) (T:TxB K mg CO) (c:ShC K C) (mk:Meth K C "keep" fk) (Fk:FnOk P w K mg base CX0 1 fk fdk ["self","room"] (qH K C)) (bk:cD K fdk ["self","room"] [])
  (b:cD K fd ["shelf","orders","place"] []) (m:mg "shelve"=some (.ref f)):∀n,FnOk P w K mg base CX0 (n+2) f fd ["shelf","orders","place"] (iX K C n)
 | 0=>lY F T c mk Fk bk 0 fun m h=>nomatch h
 | n+1=>lY F T c mk Fk bk (n+1) fun k h=>by
  cases h
  exact⟨f,fd,nS F T c mk Fk bk b m n,b,F.kp,m⟩
end
end Ord
namespace Ord
open PySem L2 Mx
abbrev mP:Stmt:=top 30
theorem jI:∀{a b:List Int},Bk.lt a b->HT.bO a b=true
 | [],[],h=>h.elim
 | [],_::_,_=>rfl
 | _::_,[],h=>h.elim
 | x::a,y::b,h=>by
  rcases h with h|⟨rfl,h⟩
  ·rw[HT.dJ,if_neg (by omega)]
   exact decide_eq_true h
  ·rw[HT.dJ,if_pos rfl]
   exact jI h
section
variable {P:Program}{w:World}{K:W.Frag}{mg:Str->Option Value}{base:Heap}{CO C:Addr}
def cm (many:Nat) (os:Bk.ao):List Bk.Room×Nat:=if os=[] then ([],0) else ((Bk.lay many os []).2,(Bk.lay many os []).1)
structure BookN (K:W.Frag) (H0 H:Hp) (t lr:Addr) (many:Int) (rs:List Bk.Room) (first:Int):Prop where
 ft:H0 t=none
 fl:H0 lr=none
 at_:H t=some (.tup [.int many,.ref lr,.int first])
 rooms:∃xs,H lr=some (.lst xs)∧Paired (aV K H) xs rs
def kT (K:W.Frag):Sp:=fun vs H Q _=>∃(many:Nat) (l:Addr) (ys:List V) (os:Bk.ao),vs=[.int (many:Int),.ref l]∧SqL K H l ys∧Paired (av.rep K H) ys os∧(∀o∈os,mD many o)∧1≤many∧many≤8∧os.length<64∧
 ∀(t lr:Addr) (H':Hp),au H H'->BookN K H H' t lr many (cm many os).1 (cm many os).2->Q (.ref t) H'
theorem iZ:FnScope ["many","orders","order","shelf","first"] ["many","orders"] (ap mP):=⟨rfl,rfl,rfl,by decide +kernel,rfl,by decide +kernel,by decide +kernel⟩
theorem vS {f fi:Addr}{fd fdi:FuncData}(F:Fun K "book_of" "book_of" mP f fd) (T:TxB K mg CO) (c:ShC K C) (M:Mk K C fi) (Fi:FnOk P w K mg base CX0 1 fi fdi ["self"] (vR K C)) (bi:cD K fdi ["self"] []) (mC:mg "Shelf"=some (.ref C))
  (WC:Df P w K mg base (CX1 P w) 3 "look_count" ["many"] (mz CO)) (WL:Df P w K mg base (CX1 P w) 4 "look_order" ["many","order"] (pf K CO)) (WS:∀n,Df P w K mg base CX0 (n+2) "shelve" ["shelf","orders","place"] (iX K C n)) :
  FnOk P w K mg base (CX1 P w) 12 f fd ["many","orders"] (kT K):=by
 refine F.okX iZ (fun vs H Q E h=>?_) (fun X cdv A outer s H vs Q E hX hp hra hr h=>?_)
 ·obtain⟨many,l,ys,os,rfl,_⟩:=h
  rfl
 obtain⟨many,l,ys,os,rfl,ql,po,good,m1,m8,few,z⟩:=h
 obtain⟨t0,m0⟩:=T.no
 have hlen:=po.length
 subst hX
 refine⟨_,ai (br (aS WC (hr.mono (by decide)) rfl hp (ac (pv 0) ae)))
  (ai (PS.nox (dz PassesOwn.never rfl (cH (pv 1)) (bA (i:=2) iZ.nd rfl (Or.inl rfl)) (am (br (aS WL (hr.mono (by decide)) rfl lA (ac (pv 0) (ac (pv 2) ae)))))))
  (ai (aK (aD cb (aB aR rfl T.t.len cp (ac (pv 1) ae)) ak (aG _)) (am (aH (aY (ac (pv 0) (ac (aO ae) (ac (bH (v:=.int 0) rfl m0 ⟨t0,rfl⟩) ae)))))) ax)
  (ai (aI (i:=3) iZ.nd rfl (Or.inl rfl) (wz M Fi (hr.mono (by decide)) rfl mC bi .nil xU))
  (ai (aI (i:=4) iZ.nd rfl (Or.inl rfl) (aS (WS many) (hr.mono (by omega)) rfl (bg (E:=fun _ _ _ _=>False)) (ac (pv 3) (ac (aB jq rfl T.t.sorted gv (ac (pv 1) ae)) (ac ak ae)))))
  (am (aH (aY (ac (pv 0) (ac (gX (pv 3) rfl) (ac (pv 4) ae)))))))))),?_⟩
 refine⟨_,rfl,(many:Int),rfl,eW (by omega) (by omega),?_⟩
 rw[if_pos (by omega)]
 refine⟨_,rfl,l,rfl,⟨_,ql⟩,fj (K:=K) (a:=l) (xs:=ys) (fun i σ H2=>∃v2,σ=[some (.int (many:Int)),some (.ref l),v2,none,none]∧au H H2) ⟨none,rfl,au.refl H⟩ ?_ ?_ ?_⟩
 ·rintro i σ H2 _ ⟨v2,rfl,s2⟩
  exact s2.seqL ql
 ·rintro i y σ H2 hy ⟨v2,rfl,s2⟩
  obtain⟨o,ho,ro⟩:=cw po hy
  obtain⟨a,rfl,qa⟩:=ck ro
  have g:=good o (List.mem_of_getElem? ho)
  have gl:(o.length:Int)=many:=g.2.2.1
  refine⟨_,rfl,_,rfl,(many:Int),a,o,rfl,eW (by omega) (by omega),⟨s2.seqT qa,by omega,fun x hx=>?_⟩,fun _ H3 s3=>⟨_,rfl,s2.trans s3⟩,fun ng=>absurd g ng⟩
  have:=g.2.2.2.mem hx
  exact eW (by omega) (by omega)
 ·rintro σ H2 ⟨v2,rfl,s2⟩
  refine⟨_,rfl,l,_,rfl,.inl (s2.seqL ql),rfl,_,rfl,?_⟩
  by_cases e0:os=[]
  ·subst e0
   have y0:ys.length=0:=hlen
   rw[y0,decide_eq_true (by rfl)]
   refine aJ ⟨_,rfl,by show 0≤sizeLine;decide,fun lr hlr=>?_⟩
   have s3:=s2.trans (af hlr (.lst []))
   refine⟨by show 3≤sizeLine;decide,fun t ht=>?_⟩
   have s4:=af ht (.tup [V.int (many:Int),V.ref lr,V.int 0])
   exact z t lr _ (s3.trans s4) ⟨s3.free ht,s2.free hlr,ag,[],s4 _ _ ag,.nil⟩
  ·have hpos:0<os.length:=List.length_pos_iff.mpr e0
   rw[decide_eq_false (fun h=>by have:=V.int.inj h;omega)]
   refine aM ?_
   intro x dx hx0 hdx0 ndx
   have u1:=af hdx0 (.own x)
   have hx1:(upd H2 dx (.own x)) x=none:=by rw[aq (Ne.symm ndx)];exact hx0
   have u2:=af hx1 (.ins C dx [])
   have s3:=s2.trans (u1.trans u2)
   refine⟨x,dx,rfl,ag,fun lr dn H3 hlr hdn keep SA=>⟨rfl,?_⟩⟩
   have s4:au H H3:=fun b u q=>keep b u (ar q (s2.free hx0)) (s3 b u q)
   have flr:H lr=none:=s3.free hlr
   have fdn:H dn=none:=s3.free hdn
   refine⟨_,rfl,_,rfl,.ref l,os,rfl,⟨l,ys,rfl,s4.seqL ql,ay (fun _ _ z=>av.mono s4 z) po⟩,fun ks hk=>?_,few,fun l2 as' kss' hl2 pas perm ris=>?_⟩
   ·have g:=good ks hk
    have:(ks.length:Int)=many:=g.2.2.1
    intro e
    subst e
    simp at this
    omega
   have s5:=af hl2 (.lst as')
   have mem:∀o∈kss',mD many o:=fun o ho=>good o (perm.mem_iff.mp ho)
   have kl:kss'.length=os.length:=perm.length_eq
   have d0:kss'.map (List.drop 0)=kss':=(List.map_congr_left fun o _=>(List.drop_zero:o.drop 0=o)).trans (List.map_id _)
   have like:Bk.lay many (kss'.map (List.drop 0)) []=Bk.lay many os []:=by
    rw[d0]
    exact Bk.kQ many [] fun o=>perm.mem_iff
   have lb:cm many os=((Bk.lay many os []).2,(Bk.lay many os []).1):=by unfold cm;rw[if_neg e0]
   refine⟨x,lr,dn,l2,[],0,as',kss',rfl,SA.same s5,SqL.up,ay (fun _ _ z=>av.mono s5 z) pas,⟨fun e=>?_,fun o ho=>?_,fun o ho y hy=>?_,?_⟩,by omega,?_,fun H5 s6 S5=>?_⟩
   ·rw[e] at kl
    simp at kl
    omega
   ·have:(o.length:Int)=many:=(mem o ho).2.2.1
    omega
   ·have g:=mem o ho
    have gl:(o.length:Int)=many:=g.2.2.1
    have:=g.2.2.2.mem hy
    omega
   ·exact ris.imp fun h z=>by
     have:=jI z
     rw[List.drop_zero,List.drop_zero,h] at this
     cases this
   ·show 0+kss'.length*many<1000
    have:kss'.length*many≤63*8:=Nat.mul_le_mul (by omega) m8
    omega
   ·rw[like] at S5 ⊢
    obtain⟨dx5,xs5,L5,hx5,hlr5,pr5,_⟩:=S5.ex
    refine⟨_,rfl,_,rfl,x,C,dx5,_,.ref lr,rfl,hx5,c.cls,c.rooms,rfl,_,rfl,by show 3≤sizeLine;decide,fun t ht=>?_⟩
    have s7:=af ht (.tup [V.int (many:Int),V.ref lr,V.int (((Bk.lay many os []).1:Nat):Int)])
    have s8:au H H5:=fun b u q=>s6 b u (ar q flr) (ar q fdn) (s5 b u (s4 b u q))
    rw[lb] at z
    exact z t lr _ (s8.trans s7) ⟨s8.free ht,flr,ag,xs5,s7 _ _ hlr5,ay (fun _ _ z=>z.same s7) pr5⟩
end
end Ord
namespace L2
open PySem PySem.Spec PyProof.Rows
theorem j4 (xs:List V) (k:Nat):aW xs none (some (k:Int))=xs.take k:=by
 unfold aW
 rw[HT.rD,HT.kI]
 simp only[List.drop_zero,Nat.sub_zero]
 by_cases h:k≤xs.length
 ·rw[Nat.min_eq_left h]
 ·rw[Nat.min_eq_right (by omega),List.take_of_length_le (Nat.le_refl _),List.take_of_length_le (by omega)]
theorem vT (xs:List V):aW xs (some (-1)) none=xs.drop (xs.length-1):=by
 unfold aW
 have e:HT.sIx xs.length 0 (some (-1))=xs.length-1:=by
  simp only[HT.sIx]
  rw[if_pos (by decide)]
  omega
 rw[e,HT.kI]
 exact List.take_of_length_le (by rw[List.length_drop];omega)
def gL (K:W.Frag):R2:=fun x y H Q=>∃a b xs ys,x=.ref a∧y=.ref b∧SqT K H a xs∧SqT K H b ys∧xs.length+ys.length≤sizeLine∧∀r H',au H H'->SqT K H' r (xs++ys)->Q (.ref r) H'
theorem fG {X:Cx}:OpR X (binaryOp .Add) (gL X.K):=by
 intro aa s σ H x y v u Q I rx ry h
 obtain⟨a,b,xs,ys,e1,e2,ha,hb,hz,q⟩:=h
 by_cases hx:xs=[]
 ·subst hx
  exact wJ aa s σ H x y v u Q I rx ry ⟨a,b,ys,e1,e2,ha,hb,q b H (au.refl H) hb⟩
 ·refine rF aa s σ H x y v u Q I rx ry ⟨a,b,xs,ys,e1,e2,ha,hb,hx,hz,fun hy=>?_,fun hy p hp=>?_⟩
  ·subst hy
   exact q a H (au.refl H) (by rw[List.append_nil];exact ha)
  ·exact q p _ (af hp _) SqT.up
section
variable {α β γ:Type} [DecidableEq α] [DecidableEq β] [DecidableEq γ]
def j5 (a b:α×β×γ) (j:Nat):Bool:=match j with
 | 0=>decide (a.1=b.1)
 | 1=>decide (a.2.1=b.2.1)
 | _=>decide (a.2.2=b.2.2)
theorem qJ (k1:Dk α) (k2:Dk β) (k3:Dk γ) {X:Cx}{aa:List (Addr×Obj)}{σ:St}{H:Hp}{s:Shared}{A:Around}{x1 x2 x3 y1 y2 y3:V}{a b:α×β×γ}{us vs:List Value}(I:Inv X aa σ H s) (hu:A.units+(k1.dep+k2.dep+k3.dep)<cLine)
  (p1:k1.rep X.K H x1 a.1) (p2:k2.rep X.K H x2 a.2.1) (p3:k3.rep X.K H x3 a.2.2) (q1:k1.rep X.K H y1 b.1) (q2:k2.rep X.K H y2 b.2.1) (q3:k3.rep X.K H y3 b.2.2) (r1:az [x1,x2,x3] us) (r2:az [y1,y2,y3] vs) :
  us.toArray.size=3∧vs.toArray.size=3∧∀j (h1:j<us.toArray.size) (h2:j<vs.toArray.size),SeqAt.EqAt A s us.toArray[j] vs.toArray[j] (j5 a b j):=by
 cases r1 with
 | cons s1 r1=>cases r1 with
 | cons s2 r1=>cases r1 with
 | cons s3 r1=>cases r1 with
 | nil=>cases r2 with
 | cons t1 r2=>cases r2 with
 | cons t2 r2=>cases r2 with
 | cons t3 r2=>cases r2 with
 | nil=>
  refine⟨rfl,rfl,fun j h1 h2=>?_⟩
  match j,h1,h2 with
  | 0,_,_=>exact k1.eqAt I (by omega) p1 q1 s1 t1
  | 1,_,_=>exact k2.eqAt I (by omega) p2 q2 s2 t2
  | 2,_,_=>exact k3.eqAt I (by omega) p3 q3 s3 t3
  | n+3,h,_=>exact absurd h (by simp)
theorem mQ (a b:α×β×γ):((List.range (min 3 3)).all (j5 a b)&&3==3)=decide (a=b):=by
 obtain⟨a1,a2,a3⟩:=a
 obtain⟨b1,b2,b3⟩:=b
 simp[List.range,List.range.loop,Prod.ext_iff,j5]
theorem oh {p q:Prop} [Decidable p] [Decidable q] (h:p↔q):decide p=decide q:=by
 by_cases c:p
 ·rw[decide_eq_true c,decide_eq_true (h.mp c)]
 ·rw[decide_eq_false c,decide_eq_false fun z=>c (h.mpr z)]
def EM (k1:Dk α) (k2:Dk β) (k3:Dk γ):Dk (α×β×γ) where
 rep:=fun K H x a=>∃p x1 x2 x3,x=.ref p∧SqT K H p [x1,x2,x3]∧k1.rep K H x1 a.1∧k2.rep K H x2 a.2.1∧k3.rep K H x3 a.2.2
 dep:=k1.dep+k2.dep+k3.dep+1
 mono:=fun s ⟨p,x1,x2,x3,e,q,r1,r2,r3⟩=>⟨p,x1,x2,x3,e,s.seqT q,k1.mono s r1,k2.mono s r2,k3.mono s r3⟩
 fn:=fun {X aa σ H s x a b} I ⟨p,x1,x2,x3,e,q,r1,r2,r3⟩ ⟨p',y1,y2,y3,e',q',t1,t2,t3⟩=>by
  rw[e] at e'
  cases e'
  have:=I.tuple_inj q q'
  cases this
  exact Prod.ext (k1.fn I r1 t1) (Prod.ext (k2.fn I r2 t2) (k3.fn I r3 t3))
 eqAt:=fun {X aa σ H s A x y a b u v} I hu ⟨p,x1,x2,x3,e,q,r1,r2,r3⟩ ⟨p',y1,y2,y3,e',q',t1,t2,t3⟩ rx ry=>by
  subst e e'
  cases rx
  cases ry
  by_cases hp:p=p'
  ·subst hp
   have:=I.tuple_inj q q'
   cases this
   have:a=b:=Prod.ext (k1.fn I r1 t1) (Prod.ext (k2.fn I r2 t2) (k3.fn I r3 t3))
   subst this
   rw[decide_eq_true rfl]
   exact SeqAt.EqAt.same _
  ·obtain⟨its,v1,w1,_⟩:=I.tuple q
   obtain⟨its',v2,w2,_⟩:=I.tuple q'
   refine SeqAt.EqAt.of_refs hp ?_
   obtain⟨z1,z2,ev⟩:=qJ k1 k2 k3 (A:=A.in1) I (by show A.units+1+_<cLine;omega) r1 r2 r3 t1 t2 t3 v1 v2
   have h:=SeqAt.RcAt.tuples (A:=A) (e:=j5 a b) w1 w2 (by omega) ev
   rw[z1,z2,mQ] at h
   exact h
 rcAt:=fun {X aa σ H s A x y a b u v} I hu ⟨p,x1,x2,x3,e,q,r1,r2,r3⟩ ⟨p',y1,y2,y3,e',q',t1,t2,t3⟩ rx ry=>by
  subst e e'
  cases rx
  cases ry
  obtain⟨its,v1,w1,_⟩:=I.tuple q
  obtain⟨its',v2,w2,_⟩:=I.tuple q'
  obtain⟨z1,z2,ev⟩:=qJ k1 k2 k3 (A:=A.in1) I (by show A.units+1+_<cLine;omega) r1 r2 r3 t1 t2 t3 v1 v2
  have h:=SeqAt.RcAt.tuples (A:=A) (e:=j5 a b) w1 w2 (by omega) ev
  rw[z1,z2,mQ] at h
  exact h
 neAt:=fun {X aa σ H s A x y a b u v} I hu ⟨p,x1,x2,x3,e,q,r1,r2,r3⟩ ⟨p',y1,y2,y3,e',q',t1,t2,t3⟩ rx ry=>by
  subst e e'
  cases rx
  cases ry
  obtain⟨its,v1,w1,_⟩:=I.tuple q
  obtain⟨its',v2,w2,_⟩:=I.tuple q'
  obtain⟨z1,z2,ev⟩:=qJ k1 k2 k3 (A:=A.in1) I (by show A.units+1+_<cLine;omega) r1 r2 r3 t1 t2 t3 v1 v2
  have h:=SeqAt.RcNeAt.tuples (A:=A) (e:=j5 a b) w1 w2 (by omega) ev
  rw[z1,z2,mQ] at h
  exact h
end
end L2
namespace Bk
open Mx
def A3 (many:Nat) (o:List Int):ao:=((aE many).filter fun t=>!o.contains t).map fun t=>o++[t]
def ext (many:Nat) (os:ao):ao:=os.flatMap (A3 many)
def i3 (many:Nat):Nat->ao
 | 0=>[[]]
 | k+1=>ext many (i3 many k)
def cR (many:Nat):ao:=i3 many many
def ltb:List Int->List Int->Bool
 | x::a,y::b=>decide (x<y)||(decide (x=y)&&ltb a b)
 | _,_=>false
theorem nU:∀{a b:List Int},ltb a b=true->lt a b
 | [],_,h=>by cases h
 | _::_,[],h=>by cases h
 | x::a,y::b,h=>by
  simp only[ltb,Bool.or_eq_true,Bool.and_eq_true,decide_eq_true_eq] at h
  rcases h with h|⟨h1,h2⟩
  ·exact .inl h
  ·exact .inr ⟨h1,nU h2⟩
def ug:ao->Bool
 | []=>true
 | o::os=>os.all (ltb o)&&ug os
theorem vU:∀{os:ao},ug os=true->bK os
 | [],_=>List.Pairwise.nil
 | o::os,h=>by
  simp only[ug,Bool.and_eq_true,List.all_eq_true] at h
  exact List.Pairwise.cons (fun o' ho=>nU (h.1 o' ho)) (vU h.2)
theorem xD:∀m∈[1,2,3,4,5],(cR m).all (fun o=>(aE m).isPerm o)=true:=by decide +kernel
theorem zN:∀m∈[1,2,3,4],ug (cR m)=true:=by decide +kernel
theorem i4:∀m∈[1,2,3,4],(cR m).length≤24:=by decide +kernel
theorem xE:∀m∈[1,2,3,4,5],∀k∈[0,1,2,3,4,5],(i3 m k).length≤200:=by decide +kernel
theorem in5 {m:Nat}(h1:1≤m) (h5:m≤5):m∈[1,2,3,4,5]:=by
 have:m=1∨m=2∨m=3∨m=4∨m=5:=by omega
 rcases this with rfl|rfl|rfl|rfl|rfl <;> decide
theorem in4 {m:Nat}(h1:1≤m) (h4:m≤4):m∈[1,2,3,4]:=by
 have:m=1∨m=2∨m=3∨m=4:=by omega
 rcases this with rfl|rfl|rfl|rfl <;> decide
theorem EN {k:Nat}(h:k≤5):k∈[0,1,2,3,4,5]:=by
 have:k=0∨k=1∨k=2∨k=3∨k=4∨k=5:=by omega
 rcases this with rfl|rfl|rfl|rfl|rfl|rfl <;> decide
theorem nV {m:Nat}{o:List Int}(h1:1≤m) (h5:m≤5) (h:o∈cR m):(aE m).Perm o:=by
 have:=xD m (in5 h1 h5)
 rw[List.all_eq_true] at this
 exact List.isPerm_iff.mp (this o h)
theorem kU {m:Nat}{o:List Int}(h1:1≤m) (h5:m≤5) (h:o∈cR m):o.length=m∧Mx.Ord o:=by
 have p:=nV h1 h5 h
 have l:o.length=m:=by rw[←p.length_eq,aQ]
 refine⟨l,?_⟩
 unfold Mx.Ord
 rw[l]
 exact(iE p (ku m)).symm
theorem qK {m:Nat}:∀(k:Nat),∀o∈i3 m k,o.length=k
 | 0,o,h=>by
  rw[List.mem_singleton.mp h]
  rfl
 | k+1,o,h=>by
  obtain⟨o',h1,h2⟩:=List.mem_flatMap.mp h
  obtain⟨t,_,rfl⟩:=List.mem_map.mp h2
  rw[List.length_append,qK k o' h1]
  rfl
theorem xF {m:Nat}{os:ao}{i:Nat}{o:List Int}(h:os[i]?=some o):ext m (os.take (i+1))=ext m (os.take i)++A3 m o:=by
 unfold ext
 rw[List.take_add_one,h]
 simp
theorem A4 {m:Nat}{os:ao}(i:Nat):(ext m (os.take i)).length≤(ext m os).length:=by
 have:ext m os=ext m (os.take i)++ext m (os.drop i):=by
  unfold ext
  rw[←List.flatMap_append,List.take_append_drop]
 rw[this,List.length_append]
 omega
structure SetOk (many:Nat) (os:ao):Prop where
 m1:1≤many
 m5:many≤5
 mem:∀o∈os,o∈cR many
 ris:bK os
 len:os.length≤24
 five:many=5->os.length≤2
theorem SetOk.of {many:Nat}{os:ao}(m1:1≤many) (m4:many≤4) (h:os.Sublist (cR many)):SetOk many os where
 m1:=m1
 m5:=by omega
 mem:=fun o ho=>h.subset ho
 ris:=(vU (zN many (in4 m1 m4))).sublist h
 len:=Nat.le_trans h.length_le (i4 many (in4 m1 m4))
 five:=fun e=>by omega
theorem SetOk.sets {many:Nat}{os:ao}(S:SetOk many os):eu many (fun x=>0≤x∧x<(many:Int)) os:=fun o ho=>by
 have p:=nV S.m1 S.m5 (S.mem o ho)
 have mm:∀x,x∈o↔0≤x∧x<(many:Int):=fun x=>by rw[←p.mem_iff];exact bD
 refine⟨(kU S.m1 S.m5 (S.mem o ho)).1,fun x hx=>?_,p.nodup_iff.mp (iD many),mm⟩
 have:=(mm x).mp hx
 have:=S.m5
 omega
theorem vV:∀m∈[1,2,3,4],iQ m≤41:=by decide +kernel
theorem SetOk.rooms {many:Nat}{os:ao}(S:SetOk many os) (ne:os≠[]):(lay many os []).2.length<70:=by
 by_cases h:many=5
 ·have a:=gJ many os [] ne
  have b:=S.five h
  have c:os.length*many≤2*5:=Nat.mul_le_mul b S.m5
  simp only[List.length_nil] at a
  omega
 ·have a:=jA many _ os [] S.sets ne
  have b:=vV many (in4 S.m1 (by have:=S.m5;omega))
  simp only[List.length_nil] at a
  omega
end Bk
namespace Ord
open PySem L2 Mx
theorem i5 (many:Nat):cm many []=([],0):=by unfold cm;rw[if_pos rfl]
theorem ip {many:Nat}{os:Bk.ao}(h:os≠[]):cm many os=((Bk.lay many os []).2,(Bk.lay many os []).1):=by unfold cm;rw[if_neg h]
section
variable {many:Nat}{os:Bk.ao}(S:Bk.SetOk many os)
include S
theorem SetOk.whole:WholeB many (cm many os).1 (cm many os).2:=by
 have m1:=S.m1
 have m5:=S.m5
 by_cases e:os=[]
 ·subst e
  rw[i5]
  exact ub m1 (by omega)
 ·rw[ip e]
  exact vO m1 (by omega) S.sets e (S.rooms e)
theorem SetOk.sem:Bk.sem (cm many os).1 (cm many os).2=os:=by
 by_cases e:os=[]
 ·subst e
  rw[i5]
  exact Bk.pW []
 ·rw[ip e]
  obtain⟨a,b⟩:=zG S.sets e
  exact a.eq S.ris b
end
theorem xG {many:Nat}(m1:1≤many) (m5:many≤5) {o:List Int}(ho:o∈Bk.cR many):mD many o:=by
 obtain⟨a,b⟩:=Bk.kU m1 m5 ho
 exact⟨by omega,by omega,by omega,b⟩
abbrev j6:Dk (Int×List (List (List Int))×Int):=EM tG (e9 ce) tG
def uh (many:Nat) (p:List Bk.Room×Nat):Int×List (List (List Int))×Int:=((many:Int),p.1.map enc,(p.2:Int))
theorem kF:∀{a b:List Bk.Room},a.map enc=b.map enc->a=b
 | [],[],_=>rfl
 | [],_::_,h=>by simp at h
 | _::_,[],h=>by simp at h
 | x::a,y::b,h=>by
  simp only[List.map_cons,List.cons.injEq] at h
  rw[gh h.1,kF h.2]
theorem xH {K:W.Frag}{H:Hp}{x:V}{many:Nat}{p:List Bk.Room×Nat}(h:BookA K H x many p.1 p.2):j6.rep K H x (uh many p):=by
 obtain⟨b,l,xs,e,q,ql,pr⟩:=h.ex
 exact⟨b,_,_,_,e,q,rfl,⟨l,xs,rfl,ql,cB pr⟩,rfl⟩
theorem BookN.a {K:W.Frag}{H0 H:Hp}{t lr:Addr}{many:Int}{rs:List Bk.Room}{first:Int}(h:BookN K H0 H t lr many rs first):BookA K H (.ref t) many rs first:=by
 obtain⟨xs,a,b⟩:=h.rooms
 exact⟨t,lr,xs,rfl,SqT.of h.at_,SqL.of a,b⟩
end Ord
namespace L2
open PySem
theorem vW {α:Type}{xs:List α}{z:Int}{v:α}(h0:0≤z) (h:xs[z.toNat]?=some v):atI xs z=some v:=by
 have:=aX h
 rw[show((z.toNat:Nat):Int)=z by omega] at this
 exact this
end L2
namespace Ord
open PySem L2 Mx
abbrev ui:Stmt:=top 37
abbrev xI:Stmt:=top 38
abbrev uj:Stmt:=top 39
abbrev qL:Stmt:=top 40
abbrev gR:Stmt:=top 41
abbrev jJ:Stmt:=top 42
abbrev i6:Stmt:=top 48
section
variable {P:Program}{w:World}{K:W.Frag}{mg:Str->Option Value}{base:Heap}{CO:Addr}
def Scr (K:W.Frag) (H:Hp) (a:Addr):Prop:=∃ns:List Int,SqL K H a (ns.map V.int)
theorem Scr.same {H H':Hp}{a:Addr}(h:Scr K H a) (e:au H H'):Scr K H' a:=let ⟨ns,q⟩:=h;⟨ns,e.seqL q⟩
def vX (K:W.Frag):Sp:=fun vs H Q _=>∃(a:Addr) (k:Int),vs=[.ref a,.int k]∧Scr K H a∧∀c:Int,Q (.int c) H
theorem A5:FnScope ["_law_script","_law_k"] ["_law_script","_law_k"] (ap ui):=⟨rfl,rfl,rfl,by decide +kernel,rfl,by decide +kernel,by decide +kernel⟩
theorem zO {f:Addr}{fd:FuncData}(F:Fun K "_law_cell" "_law_cell" ui f fd) (T:TxB K mg CO):FnOk P w K mg base CX0 1 f fd ["_law_script","_law_k"] (vX K):=by
 refine F.ok A5 (fun vs H Q E h=>?_) (fun cdv A outer s H vs Q E hr h=>?_)
 ·obtain⟨a,k,rfl,_⟩:=h
  rfl
 obtain⟨a,k,rfl,⟨ns,hs⟩,q⟩:=h
 refine⟨_,ai (aK (oO (pv 0) (fun _=>rfl)) (am (aH (aU bI (pv 0) (aw cy (pv 1) (aB aR rfl T.t.len cp (ac (pv 0) ae))) (fun _ _=>rfl)))) ax) (am (aH ak)),?_⟩
 refine⟨_,rfl,_,.inl ⟨_,hs,rfl⟩,?_⟩
 cases ns with
 | nil=>exact aM (q 0)
 | cons n0 nt=>
  refine aJ ?_
  have hl:((n0::nt).map V.int).length=(n0::nt).length:=List.length_map _
  have pos:(0:Int)<(((n0::nt).map V.int).length:Nat):=by rw[hl];simp only[List.length_cons];omega
  have h0:=Int.emod_nonneg k (Int.ne_of_gt pos)
  have h1:=Int.emod_lt_of_pos k pos
  have hlt:(k % (((n0::nt).map V.int).length:Nat)).toNat<(n0::nt).length:=by rw[hl] at h0 h1 ⊢;omega
  refine⟨_,rfl,_,rfl,_,rfl,a,_,rfl,.inl hs,_,_,rfl,rfl,pos,a,_,_,V.int ((n0::nt)[(k % (((n0::nt).map V.int).length:Nat)).toNat]'hlt),rfl,rfl,hs,vW h0 ?_,q _⟩
  rw[List.getElem?_map,List.getElem?_eq_getElem hlt]
  rfl
def lZ (K:W.Frag):Sp:=fun vs H Q _=>∃(a:Addr) (k:Int),vs=[.ref a,.int k]∧Scr K H a∧∀m:Int,0≤m->m<4294967231->Q (.int m) H
theorem uk:FnScope ["_law_script","_law_k","_law_number"] ["_law_script","_law_k"] (ap xI):=⟨rfl,rfl,rfl,by decide +kernel,rfl,by decide +kernel,by decide +kernel⟩
theorem A6 {f:Addr}{fd:FuncData}(F:Fun K "_law_mix" "_law_mix" xI f fd) (T:TxB K mg CO) (WC:Df P w K mg base CX0 1 "_law_cell" ["_law_script","_law_k"] (vX K)):FnOk P w K mg base CX0 2 f fd ["_law_script","_law_k"] (lZ K):=by
 refine F.ok uk (fun vs H Q E h=>?_) (fun cdv A outer s H vs Q E hr h=>?_)
 ·obtain⟨a,k,rfl,_⟩:=h
  rfl
 obtain⟨a,k,rfl,hs,q⟩:=h
 refine⟨_,ai (aI (i:=2) uk.nd rfl (Or.inl rfl) (aw cy (aw bB (aS WC hr rfl (bg (E:=fun _ _ _ _=>False)) (ac (pv 0) (ac (pv 1) ae))) (aw oK ak (aw bB (pv 1) ak))) ak))
  (ai (aI (i:=2) uk.nd rfl (Or.inl rfl) (aw cy (aw oK (pv 2) ak) ak))
  (am (aH (aw cy (aw bB (aw oK (aw eU (pv 2) ak) ak) (pv 2)) ak)))),?_⟩
 refine⟨_,rfl,_,rfl,a,k,rfl,hs,fun c=>?_⟩
 refine⟨_,rfl,_,_,rfl,rfl,_,_,rfl,rfl,.inl ⟨by decide,by decide⟩,_,_,rfl,rfl,_,_,rfl,rfl,by show(0:Int)<4294967291;decide,?_⟩
 refine⟨_,rfl,_,_,rfl,rfl,.inr ⟨by decide,by decide⟩,_,_,rfl,rfl,by show(0:Int)<4294967279;decide,?_⟩
 refine⟨_,rfl,_,_,rfl,rfl,⟨by decide,by decide⟩,_,_,rfl,rfl,.inr ⟨by decide,by decide⟩,_,rfl,_,_,rfl,rfl,_,_,rfl,rfl,by show(0:Int)<4294967231;decide,?_⟩
 exact q _ (Int.emod_nonneg _ (by decide)) (Int.emod_lt_of_pos _ (by decide))
def OL (K:W.Frag) (H:Hp) (a:Addr) (os:Bk.ao):Prop:=∃ys,H a=some (.lst ys)∧Paired (av.rep K H) ys os
theorem OL.same {H H':Hp}{a:Addr}{os:Bk.ao}(s:au H H') (h:OL K H a os):OL K H' a os:=by
 obtain⟨ys,q,p⟩:=h
 exact⟨ys,s _ _ q,ay (fun _ _ z=>av.mono s z) p⟩
theorem OL.rep {H:Hp}{a:Addr}{os:Bk.ao}(h:OL K H a os):(e9 av).rep K H (.ref a) os:=by
 obtain⟨ys,q,p⟩:=h
 exact⟨a,ys,rfl,SqL.of q,p⟩
theorem OL.new {H:Hp}{a:Addr}{ys:List V}{os:Bk.ao}(ha:H a=none) (p:Paired (av.rep K H) ys os):OL K (upd H a (.lst ys)) a os:=
 ⟨ys,ag,ay (fun _ _ z=>av.mono (af ha _) z) p⟩
def yg (K:W.Frag):Sp:=fun vs H Q _=>∃many:Nat,vs=[.int (many:Int)]∧1≤many∧many≤5∧∀(l:Addr) (H':Hp),au H H'->H l=none->OL K H' l (Bk.cR many)->Q (.ref l) H'
abbrev NA:List Str:=["_law_many","_law_found","_law_k","_law_longer","_law_order"]
theorem gM:FnScope NA ["_law_many"] (ap uj):=⟨rfl,rfl,rfl,by decide +kernel,rfl,by decide +kernel,by decide +kernel⟩
theorem kW {t:Int}{o:List Int}:inV (.int t) (o.map V.int)=o.contains t:=by
 induction o with
 | nil=>rfl
 | cons x o ih=>
  simp only[inV,List.map_cons,List.any_cons,List.contains_cons] at ih ⊢
  rw[ih]
  congr 1
  simp[eqV,hW,eq_comm]
theorem vY (many i:Nat) (o:List Int):(((Mx.aE (i+1)).filter fun t=>!o.contains t).map fun t=>o++[t])=(((Mx.aE i).filter fun t=>!o.contains t).map fun t=>o++[t])++(if o.contains (i:Int)=true then [] else [o++[(i:Int)]]):=by
 rw[Bk.jx,List.filter_append,List.map_append]
 congr 1
 by_cases h:o.contains (i:Int)=true
 ·rw[if_pos h,List.filter_cons_of_neg (by rw[h];decide)]
  rfl
 ·rw[if_neg h,List.filter_cons_of_pos (by rw[Bool.eq_false_iff.mpr h];rfl)]
  rfl
theorem A7 {f:Addr}{fd:FuncData}(F:Fun K "_law_all" "_law_all" uj f fd) (T:TxB K mg CO):FnOk P w K mg base CX0 1 f fd ["_law_many"] (yg K):=by
 refine F.ok gM (fun vs H Q E h=>?_) (fun cdv A outer s H vs Q E hr h=>?_)
 ·obtain⟨many,rfl,_⟩:=h
  rfl
 obtain⟨many,rfl,m1,m5,z⟩:=h
 refine⟨_,ai (aI (i:=1) gM.nd rfl (Or.inl rfl) (aO (ac (aY ae) ae)))
  (ai (dz PassesOwn.never rfl (gA rfl T.t.range (ac (pv 0) ae)) (bA (i:=2) gM.nd rfl (Or.inl rfl))
   (ai (aI (i:=3) gM.nd rfl (Or.inl rfl) (aO ae))
   (ai (dz PassesOwn.never rfl (cH (pv 1)) (bA (i:=4) gM.nd rfl (Or.inr rfl))
    (am (aI (i:=3) gM.nd rfl (Or.inl rfl) (aw cV (pv 3) (dM rfl (show CScope (ap uj) NA _ _ from by constructor <;> decide +kernel) (gA rfl T.t.range (ac (pv 0) ae))
     (fun _ _ _ _ _ _=>hE (aD (show OpR _ _ (rIn K true) from oS) (pv 0) (pv 5) rfl))
     (fun cl C s₂ H₂ fp aa=>aw (show OpR _ _ (gL K) from fG) (pv 5) (aY (ac (pv 0) ae))) gM.nd)))))
   (am (aI (i:=1) gM.nd rfl (Or.inl rfl) (pv 3))))))
  (am (aH (pv 1)))),?_⟩
 refine⟨by show 0≤sizeLine;decide,fun t0 ht0=>?_⟩
 have u0:=af ht0 (.tup [])
 refine⟨by show 1≤sizeLine;decide,fun l0 hl0=>?_⟩
 have u1:=af hl0 (.lst [V.ref t0])
 have r0:av.rep K (upd H t0 (.tup [])) (.ref t0) []:=cj (SqT.of ag)
 refine⟨_,rfl,_,rfl,by omega,by omega,uE (lo:=0) (n:=((many:Int)).toNat) (fun k σ H1=>∃v2 v3 v4 l,σ=[some (.int (many:Int)),some (.ref l),v2,v3,v4]∧au H H1∧H l=none∧OL K H1 l (Bk.i3 many k)) ⟨none,none,none,l0,rfl,u0.trans u1,u0.free hl0,OL.new hl0 (.cons r0 .nil)⟩ ?_ ?_⟩
 ·rintro k σ H1 hk ⟨v2,v3,v4,l,rfl,s1,hlf,ol⟩
  have hk5:k<many:=by omega
  refine⟨by show 0≤sizeLine;decide,fun g0 hg0=>?_⟩
  have s2:=af hg0 (.lst [])
  obtain⟨ys,hl,py⟩:=ol
  have hlen:=py.length
  refine⟨_,rfl,l,rfl,⟨_,SqL.of (s2 _ _ hl)⟩,fj (K:=K) (a:=l) (xs:=ys) (fun i σ H2=>∃v4 g,σ=[some (.int (many:Int)),some (.ref l),some (.int (0+(k:Int))),some (.ref g),v4]∧au H1 H2∧H1 g=none∧OL K H2 g (Bk.ext many ((Bk.i3 many k).take i))) ⟨v4,g0,rfl,s2,hg0,[],ag,.nil⟩ ?_ ?_ ?_⟩
  ·rintro i σ H2 _ ⟨v4,g,rfl,s3,_⟩
   exact SqL.of (s3 _ _ hl)
  ·rintro i y σ H2 hy ⟨v4,g,rfl,s3,hgf,og⟩
   obtain⟨o,ho,ro⟩:=cw py hy
   obtain⟨a,rfl,qa⟩:=ck (av.mono s3 ro)
   have lo:o.length=k:=Bk.qK k o (List.mem_of_getElem? ho)
   obtain⟨gs,hg,pg⟩:=og
   have glen:=pg.length
   have b1:(Bk.ext many ((Bk.i3 many k).take i)).length≤200:=Nat.le_trans (Bk.A4 i) (Bk.xE many (Bk.in5 m1 m5) (k+1) (Bk.EN (by omega)))
   refine⟨_,rfl,_,rfl,_,rfl,by omega,by omega,kK (lo:=0) (n:=((many:Int)).toNat) (fun j zs H3=>au H2 H3∧Paired (av.rep K H3) zs (((Mx.aE j).filter fun t=>!o.contains t).map fun t=>o++[t])) ⟨au.refl H2,.nil⟩ ?_ (by rw[sizeLine_eq];omega) ?_ ?_⟩
   ·rintro j zs H3 hj ⟨_,p3⟩
    rw[p3.length,List.length_map]
    refine Nat.le_trans (List.length_filter_le _ _) ?_
    rw[Mx.aQ]
    exact Nat.le_refl _
   ·rintro j zs H3 hj ⟨s4,p3⟩
    have qa3:=s4.seqT qa
    refine⟨_,rfl,_,rfl,a,_,rfl,.inr qa3,rfl,bX _,_,rfl,?_⟩
    rw[vY many,if_pos rfl,show(0+(j:Int))=(j:Int) by omega,kW]
    by_cases c:o.contains (j:Int)=true
    ·rw[c]
     refine aM ⟨s4,?_⟩
     rw[if_pos rfl,List.append_nil]
     exact p3
    ·rw[Bool.eq_false_iff.mpr c]
     refine aJ ⟨_,rfl,_,rfl,by show 1≤sizeLine;decide,fun t1 ht1=>?_⟩
     have s5:=af ht1 (.tup [V.int (j:Int)])
     refine⟨a,t1,_,_,rfl,rfl,s5.seqT qa3,SqT.up,by rw[List.length_map,sizeLine_eq];simp;omega,fun r H5 s6 hr=>?_⟩
     refine⟨s4.trans (s5.trans s6),?_⟩
     rw[if_neg Bool.false_ne_true]
     refine bL (ay (fun _ _ z=>av.mono (s5.trans s6) z) p3) (.cons (cj ?_) .nil)
     rw[List.map_append]
     exact hr
   ·rintro zs H3 c0 ⟨s4,p3⟩ hc0
    have s5:=af hc0 (.lst zs)
    have zl:zs.length≤5:=by
     rw[p3.length,List.length_map]
     refine Nat.le_trans (List.length_filter_le _ _) ?_
     rw[Mx.aQ]
     omega
    refine⟨g,c0,gs,zs,rfl,rfl,s5 _ _ (s4 _ _ hg),ag,by rw[sizeLine_eq];omega,fun n0 hn0=>?_⟩
    have s6:=af hn0 (.lst (gs++zs))
    refine⟨_,n0,rfl,s3.trans (s4.trans (s5.trans s6)),s3.free (s4.free (s5.free hn0)),?_⟩
    rw[Bk.xF ho]
    refine OL.new hn0 (bL (ay (fun _ _ z=>av.mono (s4.trans s5) z) pg) (ay (fun _ _ z=>av.mono s5 z) p3))
  ·rintro σ H2 ⟨v4,g,rfl,s3,hgf,og⟩
   rw[hlen,List.take_length] at og
   exact⟨_,rfl,_,_,_,g,rfl,s1.trans s3,s1.free hgf,og⟩
 ·rintro σ H1 ⟨v2,v3,v4,l,rfl,s1,hlf,ol⟩
  exact⟨_,rfl,z l H1 s1 hlf ol⟩
end
end Ord
namespace Ord
open PySem L2 Mx
section
variable {P:Program}{w:World}{K:W.Frag}{mg:Str->Option Value}{base:Heap}{CO:Addr}
def um (K:W.Frag):Sp:=fun vs H Q _=>∃(a:Addr) (k:Int) (many:Nat),vs=[.ref a,.int k,.int (many:Int)]∧Scr K H a∧1≤many∧many≤4∧∀(r:Addr) (os:Bk.ao) (H':Hp),au H H'->OL K H' r os->os.Sublist (Bk.cR many)->Q (.ref r) H'
abbrev NSt:List Str:=["_law_script","_law_k","_law_many","_law_some","_law_way","_law_number","_law_share"]
theorem i7:FnScope NSt ["_law_script","_law_k","_law_many"] (ap qL):=⟨rfl,rfl,rfl,by decide +kernel,rfl,by decide +kernel,by decide +kernel⟩
theorem qM {L os:Bk.ao}{i:Nat}{o:List Int}(ho:L[i]?=some o) (h:os.Sublist (L.take i)):os.Sublist (L.take (i+1))∧(os++[o]).Sublist (L.take (i+1)):=by
 rw[bG ho]
 exact⟨h.trans (List.sublist_append_left _ _),h.append (List.Sublist.refl _)⟩
theorem DP {i:Int}(h0:0≤i) (h1:i<6):∃c:Int,atI [V.int 0,V.int 0,V.int 1,V.int 3,V.int 6,V.int 4] i=some (.int c):=by
 have:i=0∨i=1∨i=2∨i=3∨i=4∨i=5:=by omega
 rcases this with rfl|rfl|rfl|rfl|rfl|rfl
 ·exact⟨0,rfl⟩
 ·exact⟨0,rfl⟩
 ·exact⟨1,rfl⟩
 ·exact⟨3,rfl⟩
 ·exact⟨6,rfl⟩
 ·exact⟨4,rfl⟩
theorem A8 {f:Addr}{fd:FuncData}(F:Fun K "_law_set" "_law_set" qL f fd) (T:TxB K mg CO) (WA:Df P w K mg base CX0 1 "_law_all" ["_law_many"] (yg K)) (WM:Df P w K mg base CX0 2 "_law_mix" ["_law_script","_law_k"] (lZ K)):FnOk P w K mg base CX0 3 f fd ["_law_script","_law_k","_law_many"] (um K):=by
 refine F.ok i7 (fun vs H Q E h=>?_) (fun cdv A outer s H vs Q E hr h=>?_)
 ·obtain⟨a,k,many,rfl,_⟩:=h
  rfl
 obtain⟨a,k,many,rfl,hs,m1,m4,z⟩:=h
 refine⟨_,ai (aI (i:=3) i7.nd rfl (Or.inr rfl) (aS WA (hr.mono (by decide)) rfl (bg (E:=fun _ _ _ _=>False)) (ac (pv 2) ae)))
  (ai (aI (i:=4) i7.nd rfl (Or.inl rfl) (aw cy (aS WM hr rfl (bg (E:=fun _ _ _ _=>False)) (ac (pv 0) (ac (pv 1) ae))) ak))
  (ai (aI (i:=5) i7.nd rfl (Or.inr rfl) (aS WM hr rfl (bg (E:=fun _ _ _ _=>False)) (ac (pv 0) (ac (aw bB (pv 1) ak) ae))))
  (ai (aK (aD cb (pv 4) ak (aG _)) (am (aH (dM rfl (show CScope (ap qL) NSt _ _ from by constructor <;> decide +kernel) (cH (pv 3))
    (fun _ _ _ _ _ _=>hE (aD cb (aU (show IxR _ (bZ K) from bv) (pv 0) (aw cy (pv 6) (pv 3)) (fun _ _=>rfl)) (aw cy (aw eU (pv 6) ak) (pv 3)) (aG _)))
    (fun cl C s₂ H₂ fp aa=>pv 0) i7.nd))) ax)
  (ai (aK (aD cb (pv 4) ak (aG _)) (am (aH (aU bI (aO (ac (aO ae) (ac (pv 3) (ac (bC dj (pv 3) bR (bS ak)) (ac (bC dj (pv 3) (bS (sP oM ak)) bR) ae))))) (aw cy (pv 5) ak) (fun _ _=>rfl)))) ax)
  (ai (aI (i:=6) i7.nd rfl (Or.inr rfl) (aU bI (aO (ac ak (ac ak (ac ak (ac ak (ac ak (ac ak ae))))))) (pv 4) (fun _ _=>rfl)))
  (am (aH (dM rfl (show CScope (ap qL) NSt _ _ from by constructor <;> decide +kernel) (gA rfl T.t.range (ac (aB aR rfl T.t.len cp (ac (pv 3) ae)) ae))
    (fun _ _ _ _ _ _=>hE (aD fX (aw cy (aw eU (aS WM hr rfl (bg (E:=fun _ _ _ _=>False)) (ac (pv 1) (ac (aw bB (aw bB (pv 2) ak) (pv 0)) ae))) ak) ak) (pv 7) (aG _)))
    (fun cl C s₂ H₂ fp aa=>aU (show IxR _ (dA K) from bI) (pv 4) (pv 0) (fun _ _=>rfl)) i7.nd)))))))),?_⟩
 refine⟨_,rfl,many,rfl,m1,by omega,fun l H1 s1 hlf ol=>?_⟩
 obtain⟨ys,hl,py⟩:=ol
 have hlen:=py.length
 have len24:=Bk.i4 many (Bk.in4 m1 m4)
 refine⟨_,rfl,_,rfl,a,k,rfl,hs.same s1,fun m _ _=>⟨_,_,rfl,rfl,by show(0:Int)<6;decide,?_⟩⟩
 have w0:=Int.emod_nonneg m (show(6:Int)≠0 by decide)
 have w1:=Int.emod_lt_of_pos m (show(0:Int)<6 by decide)
 refine⟨_,rfl,_,rfl,_,_,rfl,rfl,a,_,rfl,hs.same s1,fun num n0 _=>?_⟩
 refine⟨_,rfl,rfl,_,rfl,?_⟩
 refine ti (fun _=>?_) (fun _=>?_)
 ·refine⟨_,rfl,l,rfl,⟨_,SqL.of hl⟩,fv (K:=K) (a:=l) (xs:=ys) (fun i zs H2=>H2=H1∧zs.length≤i∧∃os,Paired (av.rep K H1) zs os∧os.Sublist ((Bk.cR many).take i)) ⟨rfl,Nat.zero_le _,[],.nil,List.Sublist.refl _⟩ ?_ (by rw[sizeLine_eq];omega) ?_ ?_⟩
  ·rintro i zs H2 _ ⟨rfl,zl,_⟩
   exact⟨SqL.of hl,zl⟩
  ·rintro i y zs H2 hy ⟨rfl,zl,os,po,sub⟩
   obtain⟨o,ho,ro⟩:=cw py hy
   obtain⟨b,rfl,qb⟩:=ck ro
   have lo:=(Bk.kU m1 (by omega) (List.mem_of_getElem? ho)).1
   have p0:=Int.emod_nonneg num (show(many:Int)≠0 by omega)
   have p1:=Int.emod_lt_of_pos num (show(0:Int)<(many:Int) by omega)
   have hlt:(num % (many:Int)).toNat<o.length:=by omega
   obtain⟨t1,t2⟩:=qM ho sub
   refine⟨_,rfl,_,rfl,_,rfl,_,_,rfl,rfl,by show(0:Int)<(many:Int);omega,b,_,_,.int (o[(num % (many:Int)).toNat]'hlt),rfl,rfl,qb,vW p0 (by rw[List.getElem?_map,List.getElem?_eq_getElem hlt];rfl),?_⟩
   refine⟨_,rfl,_,_,rfl,rfl,⟨by decide,by decide⟩,_,rfl,_,_,rfl,rfl,by show(0:Int)<(many:Int);omega,rfl,_,rfl,?_⟩
   refine ti (fun _=>?_) (fun _=>?_)
   ·exact⟨_,rfl,rfl,by rw[List.length_append];show zs.length+1≤i+1;omega,os++[o],bL po (.cons ro .nil),t2⟩
   ·exact⟨rfl,by omega,os,po,t1⟩
  ·rintro zs H2 p ⟨rfl,_,os,po,sub⟩ hp
   exact z p os _ (s1.trans (af hp _)) (OL.new hp po) (sub.trans (List.take_sublist _ _))
 refine⟨_,rfl,rfl,_,rfl,?_⟩
 refine ti (fun _=>?_) (fun _=>?_)
 ·refine⟨by show 0≤sizeLine;decide,fun e0 he0=>?_⟩
  have s2:=af he0 (.lst [])
  refine⟨_,rfl,_,rfl,1,rfl,l,ys,rfl,SqL.of (s2 _ _ hl),fun f0 hf0=>?_⟩
  have s3:=af hf0 (.lst (aW ys none (some 1)))
  refine⟨_,rfl,1,rfl,-1,rfl,l,ys,rfl,SqL.of (s3 _ _ (s2 _ _ hl)),fun g0 hg0=>?_⟩
  have s4:=af hg0 (.lst (aW ys (some (-1)) none))
  refine⟨by show 4≤sizeLine;decide,fun h0 hh0=>?_⟩
  have s5:=af hh0 (.lst [V.ref e0,V.ref l,V.ref f0,V.ref g0])
  have s6:=s2.trans (s3.trans (s4.trans s5))
  have p0:=Int.emod_nonneg num (show(4:Int)≠0 by decide)
  have p1:=Int.emod_lt_of_pos num (show(0:Int)<4 by decide)
  have c1:aW ys none (some 1)=ys.take 1:=j4 ys 1
  have e1:OL K (upd (upd (upd (upd H1 e0 (.lst [])) f0 (.lst (aW ys none (some 1)))) g0 (.lst (aW ys (some (-1)) none))) h0 (.lst [V.ref e0,V.ref l,V.ref f0,V.ref g0])) e0 []:=OL.same (s3.trans (s4.trans s5)) ⟨[],ag,.nil⟩
  have e2:=OL.same s6 ⟨ys,hl,py⟩
  have e3:OL K (upd (upd (upd (upd H1 e0 (.lst [])) f0 (.lst (aW ys none (some 1)))) g0 (.lst (aW ys (some (-1)) none))) h0 (.lst [V.ref e0,V.ref l,V.ref f0,V.ref g0])) f0 ((Bk.cR many).take 1):=OL.same (s4.trans s5) ⟨_,ag,by have q:=fI 1 (ay (fun _ _ z=>av.mono (s2.trans s3) z) py);rw[←c1] at q;exact q⟩
  have e4:OL K (upd (upd (upd (upd H1 e0 (.lst [])) f0 (.lst (aW ys none (some 1)))) g0 (.lst (aW ys (some (-1)) none))) h0 (.lst [V.ref e0,V.ref l,V.ref f0,V.ref g0])) g0 ((Bk.cR many).drop (ys.length-1)):=OL.same s5 ⟨_,ag,by have q:=fJ (ys.length-1) (ay (fun _ _ z=>av.mono (s2.trans (s3.trans s4)) z) py);rw[←vT] at q;exact q⟩
  have cs:num % 4=0∨num % 4=1∨num % 4=2∨num % 4=3:=by omega
  refine⟨_,rfl,_,_,rfl,rfl,by show(0:Int)<4;decide,?_⟩
  show dA _ (V.ref h0) (V.int (num % 4)) _ _
  rcases cs with c|c|c|c
  ·rw[c]
   exact⟨h0,_,0,V.ref e0,rfl,rfl,SqL.up,rfl,z e0 [] _ (s1.trans s6) e1 (List.nil_sublist _)⟩
  ·rw[c]
   exact⟨h0,_,1,V.ref l,rfl,rfl,SqL.up,rfl,z l _ _ (s1.trans s6) e2 (List.Sublist.refl _)⟩
  ·rw[c]
   exact⟨h0,_,2,V.ref f0,rfl,rfl,SqL.up,rfl,z f0 _ _ (s1.trans s6) e3 (List.take_sublist _ _)⟩
  ·rw[c]
   exact⟨h0,_,3,V.ref g0,rfl,rfl,SqL.up,rfl,z g0 _ _ (s1.trans s6) e4 (List.drop_sublist _ _)⟩
 obtain⟨sh,esh⟩:=DP w0 w1
 refine⟨by show 6≤sizeLine;decide,fun e0 he0=>?_⟩
 have s2:=af he0 (.lst [V.int 0,V.int 0,V.int 1,V.int 3,V.int 6,V.int 4])
 refine⟨_,rfl,e0,_,_,V.int sh,rfl,rfl,SqL.up,esh,?_⟩
 generalize (upd H1 e0 (.lst [V.int 0,V.int 0,V.int 1,V.int 3,V.int 6,V.int 4]))=H2 at s2 ⊢
 have hl2:=s2 _ _ hl
 refine⟨_,rfl,l,_,rfl,.inl (SqL.of hl2),_,rfl,by omega,by omega,kK (lo:=0) (n:=(((ys.length:Nat):Int)).toNat) (fun i zs H3=>H3=H2∧zs.length≤i∧∃os,Paired (av.rep K H2) zs os∧os.Sublist ((Bk.cR many).take i)) ⟨rfl,Nat.zero_le _,[],.nil,List.Sublist.refl _⟩ ?_ (by rw[sizeLine_eq];omega) ?_ ?_⟩
 ·rintro i zs H3 _ ⟨_,zl,_⟩
  exact zl
 ·rintro i zs H3 hi ⟨rfl,zl,os,po,sub⟩
  have hi':i<ys.length:=by omega
  obtain⟨o,ho,ro⟩:=cw py (List.getElem?_eq_getElem hi')
  obtain⟨t1,t2⟩:=qM ho sub
  refine⟨_,rfl,_,rfl,_,_,rfl,rfl,_,rfl,_,_,rfl,rfl,a,_,rfl,hs.same (s1.trans s2),fun m2 _ _=>?_⟩
  refine⟨_,_,rfl,rfl,⟨by decide,by decide⟩,_,_,rfl,rfl,by show(0:Int)<8;decide,_,rfl,_,_,rfl,rfl,_,rfl,?_⟩
  refine ti (fun _=>?_) (fun _=>?_)
  ·refine⟨_,rfl,_,rfl,l,ys,_,_,rfl,rfl,SqL.of hl2,?_,rfl,by rw[List.length_append];show zs.length+1≤i+1;omega,os++[o],bL po (.cons (av.mono s2 ro) .nil),t2⟩
   rw[show(0+(i:Int))=(i:Int) by omega]
   exact aX (List.getElem?_eq_getElem hi')
  ·exact⟨rfl,by omega,os,po,t1⟩
 ·rintro zs H3 p ⟨rfl,_,os,po,sub⟩ hp
  exact z p os _ (s1.trans (s2.trans (af hp _))) (OL.new hp po) (sub.trans (List.take_sublist _ _))
end
end Ord
namespace Ord
open PySem L2 Mx
section
variable {P:Program}{w:World}{K:W.Frag}{mg:Str->Option Value}{base:Heap}{CO:Addr}
abbrev NRe:List Str:=["_law_some","_law_number","_law_seen","_law_found","_law_thing","_law_other","_law_rests_here"]
abbrev PRe:List Str:=["_law_some","_law_number","_law_seen"]
def j7 (K:W.Frag) (n:Nat):Sp:=fun vs H Q _=>∃(l sl:Addr) (xs:List V) (rs:List Bk.Room) (k:Int) (seen:List Int),vs=[.ref l,.int k,.ref sl]∧SqL K H l xs∧Paired (aV K H) xs rs∧H sl=some (.lst (seen.map V.int))∧seen.length+n≤1000∧rs.length<100∧Bk.Bnd rs n k seen∧
 (∀os,Bk.rG rs n k seen=some os->∀(t:Addr) (H':Hp),au H H'->H t=none->OL K H' t os->Q (.ref t) H')∧(Bk.rG rs n k seen=none->∀H',au H H'->Q .non H')
theorem fH:FnScope NRe PRe (ap jG):=⟨rfl,rfl,rfl,by decide +kernel,rfl,by decide +kernel,by decide +kernel⟩
theorem nW {f:Addr}{fd:FuncData}(F:Fun K "_law_rests" "_law_rests" jG f fd) (T:TxB K mg CO) (n:Nat) (WW:∀m,n=m+1->Df P w K mg base CX0 (m+1) "_law_rests" PRe (j7 K m)) :
  FnOk P w K mg base CX0 (n+1) f fd PRe (j7 K n):=by
 refine F.ok fH (fun vs H Q E h=>?_) (fun cdv A outer s H vs Q E hr h=>?_)
 ·obtain⟨l,sl,xs,rs,k,seen,rfl,_⟩:=h
  rfl
 obtain⟨l,sl,xs,rs,k,seen,rfl,ql,pr,hsl,sn,few,bd,zs,zn⟩:=h
 have hlen:=pr.length
 by_cases c1:k=1
 ·subst c1
  refine⟨_,ai (aK (aD cb (pv 1) ak (aG _)) (am (aH (aO (ac (aY ae) ae)))) ax) (ai aL (ai aL (ai aL (am aL)))),?_⟩
  refine⟨_,rfl,rfl,_,rfl,aJ ⟨by show 0≤sizeLine;decide,fun t0 ht0=>⟨by show 1≤sizeLine;decide,fun l0 hl0=>?_⟩⟩⟩
  have u0:=af ht0 (.tup [])
  have r0:av.rep K (upd H t0 (.tup [])) (.ref t0) []:=cj (SqT.of ag)
  refine zs [[]] ?_ l0 _ (u0.trans (af hl0 _)) (u0.free hl0) (OL.new hl0 (.cons r0 .nil))
  cases n <;> (unfold Bk.rG;rw[if_pos rfl])
 have e1:∀D:Ends,∀σ:St,decide (V.int k=V.int 1)=false:=fun _ _=>decide_eq_false fun h=>c1 (V.int.inj h)
 by_cases c2:Bk.InR rs k seen
 case neg=>
  refine⟨_,ai (aK (aD cb (pv 1) ak (aG _)) (am (aH (aO (ac (aY ae) ae)))) ax)
   (ai (aK (PW.pt (fW (cq (fq iy fX ak (pv 1) (aw bB (aB aR rfl T.t.len cp (ac (pv 0) ae)) ak))) (eZ (aD (show OpR _ _ (rIn K false) from mW) (pv 1) (pv 2) rfl)))) (am (aH fL)) ax)
   (ai aL (ai aL (am aL)))),?_⟩
  have rn:Bk.rG rs n k seen=none:=by
   cases n with
   | zero=>unfold Bk.rG;rw[if_neg c1]
   | succ n=>unfold Bk.rG;rw[if_neg c1,if_neg c2]
  refine⟨_,rfl,rfl,_,rfl,?_⟩
  rw[decide_eq_false fun h=>c1 (V.int.inj h)]
  refine aM ?_
  refine⟨_,rfl,2,k,rfl,rfl,_,rfl,?_⟩
  by_cases d1:2≤k
  case neg=>
   rw[decide_eq_false d1]
   exact aM ⟨_,rfl,aJ (zn rn H (au.refl H))⟩
  rw[decide_eq_true d1]
  refine aJ ⟨_,rfl,l,_,rfl,.inl ql,_,2,rfl,rfl,k,_,rfl,rfl,_,rfl,?_⟩
  by_cases d2:k<((xs.length:Nat):Int)+2
  case neg=>
   rw[decide_eq_false d2]
   exact aJ (zn rn H (au.refl H))
  rw[decide_eq_true d2]
  refine aM ⟨_,rfl,_,rfl,sl,_,rfl,.inl (SqL.of hsl),rfl,bX _,_,rfl,?_⟩
  have hs:seen.contains k=true:=by
   by_cases g:k∈seen
   ·exact List.contains_iff_mem.mpr g
   ·exact absurd ⟨⟨d1,by omega⟩,g⟩ c2
  rw[if_neg Bool.false_ne_true,kW,hs]
  exact aJ (zn rn H (au.refl H))
 cases n with
 | zero=>
  rcases bd with h|h
  ·exact absurd h c1
  ·exact absurd c2 h
 | succ n=>
  obtain⟨r6,each⟩:(Bk.aA rs k).length≤6∧∀d∈Bk.aA rs k,Bk.Bnd rs n d.2 (seen++[k])∧∀os,Bk.rG rs n d.2 (seen++[k])=some os->os.length≤1000∧∀o∈os,o.length≤100:=by
   rcases bd with h|h|h
   ·exact absurd h c1
   ·exact absurd c2 h
   ·exact h
  have D:=WW n rfl
  obtain⟨⟨k2,kl⟩,kn⟩:=id c2
  have kl':(k-2).toNat<rs.length:=by omega
  refine⟨_,ai (aK (aD cb (pv 1) ak (aG _)) (am (aH (aO (ac (aY ae) ae)))) ax)
   (ai (aK (PW.pt (fW (cq (fq iy fX ak (pv 1) (aw bB (aB aR rfl T.t.len cp (ac (pv 0) ae)) ak))) (eZ (aD (show OpR _ _ (rIn K false) from mW) (pv 1) (pv 2) rfl)))) (am (aH fL)) ax)
   (ai (aI (i:=3) fH.nd rfl (by first|exact Or.inl rfl|exact Or.inr rfl) (aO ae))
   (ai (dz PassesOwn.never rfl (gW (aU (show IxR _ (dA K) from bI) (pv 0) (aw jf (pv 1) ak) (fun _ _=>rfl)))
     (lh rfl (cP (bA (i:=4) fH.nd rfl (by first|exact Or.inl rfl|exact Or.inr rfl)) (cP (bA (i:=5) fH.nd rfl (by first|exact Or.inl rfl|exact Or.inr rfl)) jN)))
    (ai (aI (i:=6) fH.nd rfl (by first|exact Or.inl rfl|exact Or.inr rfl) (aS D hr rfl (bg (E:=fun _ _ _ _=>False)) (ac (pv 0) (ac (pv 5) (ac (aw cV (pv 2) (aO (ac (pv 1) ae))) ae)))))
    (ai (aK (aD li (pv 6) fL (aG _)) (am (aH fL)) ax)
    (am (aI (i:=3) fH.nd rfl (by first|exact Or.inl rfl|exact Or.inr rfl) (aw cV (pv 3) (dM rfl (show CScope (ap jG) NRe _ _ from by constructor <;> decide +kernel) (cH (pv 6)) (fun _ _ _ _ _ _=>fu)
     (fun cl C s₂ H₂ fp aa=>aw (show OpR _ _ (gL K) from fG) (aY (ac (pv 5) ae)) (pv 0)) fH.nd)))))))
   (am (aH (pv 3)))))),?_⟩
  refine⟨_,rfl,rfl,_,rfl,?_⟩
  rw[decide_eq_false fun h=>c1 (V.int.inj h)]
  refine aM ?_
  refine⟨_,rfl,2,k,rfl,rfl,_,rfl,?_⟩
  rw[decide_eq_true k2]
  refine aJ ⟨_,rfl,l,_,rfl,.inl ql,_,2,rfl,rfl,k,_,rfl,rfl,_,rfl,?_⟩
  rw[decide_eq_true (show k<((xs.length:Nat):Int)+2 by omega)]
  refine aM ⟨_,rfl,_,rfl,sl,_,rfl,.inl (SqL.of hsl),rfl,bX _,_,rfl,?_⟩
  have hs:seen.contains k=false:=Bool.eq_false_iff.mpr fun h=>kn (List.contains_iff_mem.mp h)
  rw[if_neg Bool.false_ne_true,kW,hs]
  refine aM ⟨by show 0≤sizeLine;decide,fun g0 hg0=>?_⟩
  have s0:=af hg0 (.lst [])
  obtain⟨x,hx,ra⟩:=dN pr (Bk.fR kl')
  obtain⟨a,ys,rfl,qa,pd⟩:=id ra
  have ik:atI xs (k-2)=some (.ref a):=by
   have:=aX hx
   rw[show(((k-2).toNat:Nat):Int)=k-2 by omega] at this
   exact this
  have rgE:Bk.rG rs (n+1) k seen=Bk.cX (fun d=>Bk.rG rs n d.2 (seen++[k])) (Bk.aA rs k) []:=by
   rw[Bk.rG,if_neg c1,if_pos c2]
  have dl:=pd.length
  refine⟨_,rfl,_,rfl,k,2,rfl,rfl,l,xs,k-2,.ref a,rfl,rfl,s0.seqL ql,ik,a,rfl,⟨_,s0.seqT qa⟩,
   jO (K:=K) (a:=a) (xs:=ys) (fun i σ H2=>∃v4 v5 v6 g acc,σ=[some (.ref l),some (.int k),some (.ref sl),some (.ref g),v4,v5,v6]∧au H H2∧H g=none∧OL K H2 g acc∧acc.length≤i*1000∧Bk.rG rs (n+1) k seen=Bk.cX (fun d=>Bk.rG rs n d.2 (seen++[k])) ((Bk.aA rs k).drop i) acc) ⟨none,none,none,g0,[],rfl,s0,hg0,⟨[],ag,.nil⟩,by simp,rgE⟩ ?_ ?_ ?_⟩
  ·rintro i σ H2 _ ⟨v4,v5,v6,g,acc,rfl,s2,_⟩
   exact s2.seqT qa
  ·rintro i y σ H2 hy ⟨v4,v5,v6,g,acc,rfl,s2,hgf,og,al,rg⟩
   obtain⟨⟨dt,dk⟩,hd,p,rfl,qd⟩:=cw pd hy
   obtain⟨il,ie⟩:=List.getElem?_eq_some_iff.mp hd
   obtain⟨eb,es⟩:=each _ (List.mem_of_getElem? hd)
   rw[List.drop_eq_getElem_cons il,ie] at rg
   unfold Bk.cX at rg
   refine⟨p,_,rfl,s2.seqT qd,rfl,_,_,rfl,_,_,rfl,rfl,?_⟩
   refine⟨_,rfl,_,rfl,_,rfl,_,rfl,by show 1≤sizeLine;decide,fun l1 hl1=>?_⟩
   have s3:=af hl1 (.lst [V.int k])
   refine⟨sl,l1,_,_,rfl,rfl,s3 _ _ (s2 _ _ hsl),ag,by rw[List.length_map,sizeLine_eq];simp;omega,fun l2 hl2=>?_⟩
   have s4:=af hl2 (.lst (seen.map V.int++[V.int k]))
   have s24:=s2.trans (s3.trans s4)
   refine⟨l,l2,xs,rs,dk,seen++[k],rfl,s24.seqL ql,ay (fun _ _ z=>z.same s24) pr,by rw[ag,List.map_append];rfl,by rw[List.length_append];simp;omega,few,eb,fun os eo t H5 s5 ht5 ot=>?_,fun eo H5 s5=>?_⟩
   ·have hs5:=es os eo
    rw[eo] at rg
    obtain⟨zs',hzl,pz⟩:=id ot
    have zl:=pz.length
    refine⟨_,rfl,rfl,_,rfl,aM ?_⟩
    refine⟨_,rfl,_,rfl,t,rfl,⟨_,SqL.of hzl⟩,fv (K:=K) (a:=t) (xs:=zs') (fun j us H6=>au H5 H6∧Paired (av.rep K H6) us ((os.take j).map (dt::·))) ⟨au.refl H5,.nil⟩ ?_ (by rw[sizeLine_eq];omega) ?_ ?_⟩
    ·rintro j us H6 hj ⟨s6,p6⟩
     refine⟨SqL.of (s6 _ _ hzl),?_⟩
     rw[p6.length,List.length_map,List.length_take]
     omega
    ·rintro j u us H6 hu ⟨s6,p6⟩
     obtain⟨o,ho,ro⟩:=cw pz hu
     obtain⟨b,rfl,qb⟩:=ck (av.mono s6 ro)
     have ol:=hs5.2 o (List.mem_of_getElem? ho)
     refine goT (aJ ⟨_,rfl,by show 1≤sizeLine;decide,fun t1 ht1=>?_⟩)
     have s7:=af ht1 (.tup [V.int dt])
     refine⟨_,rfl,t1,b,_,_,rfl,rfl,SqT.up,s7.seqT qb,by rw[List.length_map,sizeLine_eq];simp;omega,fun r H8 s8 hr8=>?_⟩
     refine⟨s6.trans (s7.trans s8),?_⟩
     rw[bG ho,List.map_append]
     exact bL (ay (fun _ _ z=>av.mono (s7.trans s8) z) p6) (.cons (cj hr8) .nil)
    ·rintro us H6 c0 ⟨s6,p6⟩ hc0
     rw[zl,List.take_length] at p6
     have s7:=af hc0 (.lst us)
     obtain⟨gs,hg,pg⟩:=og
     have gl:=pg.length
     have ul:=p6.length
     rw[List.length_map] at ul
     have s57:=(s3.trans s4).trans (s5.trans (s6.trans s7))
     refine⟨g,c0,gs,us,rfl,rfl,s57 _ _ hg,ag,by rw[sizeLine_eq];omega,fun n0 hn0=>?_⟩
     have s8:=af hn0 (.lst (gs++us))
     refine⟨_,_,_,n0,acc++os.map (dt::·),rfl,s2.trans (s57.trans s8),s2.free (s57.free hn0),OL.new hn0 (bL (ay (fun _ _ z=>av.mono s57 z) pg) (ay (fun _ _ z=>av.mono s7 z) p6)),?_,rg⟩
     rw[List.length_append,List.length_map]
     have:=hs5.1
     omega
   ·rw[eo] at rg
    refine⟨_,rfl,rfl,_,rfl,aJ ?_⟩
    exact zn rg H5 (s24.trans s5)
  ·rintro σ H2 ⟨v4,v5,v6,g,acc,rfl,s2,hgf,og,al,rg⟩
   rw[dl,List.drop_length] at rg
   exact⟨_,rfl,zs acc rg g H2 s2 hgf og⟩
theorem qN {f:Addr}{fd:FuncData}(F:Fun K "_law_rests" "_law_rests" jG f fd) (T:TxB K mg CO) (b:cD K fd PRe []) (m:mg "_law_rests"=some (.ref f)) :
  ∀n,FnOk P w K mg base CX0 (n+1) f fd PRe (j7 K n)
 | 0=>nW F T 0 fun m h=>nomatch h
 | n+1=>nW F T (n+1) fun k h=>by
  cases h
  exact⟨f,fd,qN F T b m n,b,F.kp,m⟩
end
end Ord
namespace Bk
open Mx
theorem A9 {p:Int->Bool}{l:List Int}{i:Nat}{t:Int}(h:l[i]?=some t) (pt:p t=true):(l.filter p)[((l.take i).filter p).length]?=some t∧(l.filter p).take ((l.take i).filter p).length=(l.take i).filter p:=by
 obtain⟨hi,rfl⟩:=List.getElem?_eq_some_iff.mp h
 have e:l.filter p=(l.take i).filter p++l[i]::(l.drop (i+1)).filter p:=by
  have e1:l=l.take i++l[i]::l.drop (i+1):=by rw[←List.drop_eq_getElem_cons hi,List.take_append_drop]
  have e2:=congrArg (List.filter p) e1
  rw[List.filter_append,List.filter_cons_of_pos pt] at e2
  exact e2
 rw[e]
 exact⟨by rw[List.getElem?_append_right (Nat.le_refl _),Nat.sub_self];rfl,by rw[List.take_left'];rfl⟩
theorem uo {n:Nat}{lf:List Int}{os:ao}(ris:lf.Pairwise (· < ·)) (S:eu (n+1) (·∈lf) os):lf.filter (fun t=>!(rests t os).isEmpty)=heads os:=by
 refine j1 (ris.filter _) (cr os) fun x=>?_
 rw[List.mem_filter,bF]
 have em:(!(rests x os).isEmpty)=true↔∃r,x::r∈os:=by
  rw[Bool.not_eq_true',List.isEmpty_eq_false_iff_exists_mem]
  exact exists_congr fun r=>aZ
 rw[em]
 constructor
 ·rintro⟨_,r,hr⟩
  exact⟨(S _ hr).2.1 x (List.mem_cons_self ..),r,hr⟩
 ·rintro⟨_,r,hr⟩
  exact⟨((S _ hr).2.2.2 x).mp (List.mem_cons_self ..),r,hr⟩
theorem uq {t:Int}{os:ao}{j:Nat}{o:List Int}(h:os[j]?=some o):rests t (os.take (j+1))=rests t (os.take j)++(cZ t o).toList:=by
 unfold rests
 rw[List.take_add_one,h,Option.toList_some,List.filterMap_append]
 congr 1
theorem vZ {r:Room}:∀{rs:List Room},r∈rs->rs[rs.idxOf r]?=some r∧∀i,i<rs.idxOf r->rs[i]?≠some r
 | [],h=>by cases h
 | x::rs,h=>by
  rw[List.idxOf_cons]
  by_cases e:x=r
  ·subst e
   rw[beq_self_eq_true]
   exact⟨rfl,fun i hi=>absurd hi (Nat.not_lt_zero _)⟩
  ·rw[beq_false_of_ne e]
   have hr:r∈rs:=by
    rcases List.mem_cons.mp h with h|h
    ·exact absurd h.symm e
    ·exact h
   obtain⟨a,b⟩:=vZ hr
   refine⟨by simpa using a,fun i hi=>?_⟩
   cases i with
   | zero=>simpa using e
   | succ i=>simpa using b i (by simp at hi;omega)
theorem zP {r:Room}{rs:List Room}(h:r∉rs):(rs++[r])[rs.length]?=some r∧∀i,i<rs.length->(rs++[r])[i]?≠some r:=by
 refine⟨by simp,fun i hi e=>h ?_⟩
 rw[List.getElem?_append_left hi] at e
 exact List.mem_of_getElem? e
end Bk
namespace L2
open PySem
theorem fU (xs:List V) (k:Nat):aW xs (some (k:Int)) none=xs.drop k:=by
 unfold aW
 rw[HT.rD,HT.kI]
 by_cases h:k≤xs.length
 ·rw[Nat.min_eq_left h,List.take_of_length_le (by rw[List.length_drop];omega)]
 ·rw[Nat.min_eq_right (by omega),List.drop_of_length_le (Nat.le_refl _),List.drop_of_length_le (by omega)]
  simp
section
variable {K:W.Frag}{H H' H'':Hp}{a d:Addr}{xs:List V}{o:HO}
theorem bq.of (s:au H H'):bq d H H':=fun b o _ e=>s b o e
theorem bq.sqT (e:bq d H H') (hd:H d=some o) (so:fF o) (h:SqT K H a xs):SqT K H' a xs:=by
 rcases h with(h|⟨ob,h⟩)|h
 ·exact .inl (.inl (e _ _ (by rintro rfl;rw[hd] at h;cases h;exact so) h))
 ·exact .inl (.inr ⟨ob,e _ _ (by rintro rfl;rw[hd] at h;cases h;exact so) h⟩)
 ·exact .inr h
end
end L2
namespace Ord
open PySem L2 Mx
section
variable {P:Program}{w:World}{K:W.Frag}{mg:Str->Option Value}{base:Heap}{CO:Addr}
theorem cA.sb {H H':Hp}{d:Addr}{o:HO}{x:V}{r:Int×Int}(s:bq d H H') (hd:H d=some o) (so:fF o) (h:cA K H x r):cA K H' x r:=by
 obtain⟨p,e,q⟩:=h
 exact⟨p,e,s.sqT hd so q⟩
theorem zQ {H H':Hp}{d:Addr}{o:HO}{x:V}{r:List Int}(s:bq d H H') (hd:H d=some o) (so:fF o) (h:av.rep K H x r):av.rep K H' x r:=by
 obtain⟨p,e,q⟩:=ck h
 subst e
 exact cj (s.sqT hd so q)
theorem OL.sb {H H':Hp}{d a:Addr}{o:HO}{os:Bk.ao}(s:bq d H H') (hd:H d=some o) (so:fF o) (n:a≠d) (h:OL K H a os):OL K H' a os:=by
 obtain⟨ys,q,p⟩:=h
 exact⟨ys,s _ _ n q,ay (fun _ _ z=>zQ s hd so z) p⟩
def oG (K:W.Frag) (n:Nat):Sp:=fun vs H Q _=>∃(many:Int) (la oa lr:Addr) (lf:List Int) (os:Bk.ao) (rs:List Bk.Room) (rx:List V),vs=[.int many,.ref la,.ref oa,.ref lr]∧H la=some (.lst (lf.map V.int))∧OL K H oa os∧H lr=some (.lst rx)∧Paired (aV K H) rx rs∧
 la≠lr∧oa≠lr∧lf.Pairwise (· < ·)∧lf.length=n∧Bk.eu n (·∈lf) os∧os≠[]∧os.length≤1000∧rs.length+os.length*n<1000∧
 ∀(H':Hp) (rx':List V),bq lr H H'->H' lr=some (.lst rx')->Paired (aV K H') rx' (Bk.lay n os rs).2->Q (.int ((Bk.lay n os rs).1:Nat)) H'
abbrev NLy:List Str:=["_law_many","_law_left","_law_orders","_law_rooms","_law_doors","_law_thing","_law_rests_here"]
abbrev PLy:List Str:=["_law_many","_law_left","_law_orders","_law_rooms"]
theorem ma:FnScope NLy PLy (ap gR):=⟨rfl,rfl,rfl,by decide +kernel,rfl,by decide +kernel,by decide +kernel⟩
theorem qO {r:Bk.Room}:∀{rs:List Bk.Room},(rs.map enc).any (fun a=>decide (a=enc r))=decide (r∈rs)
 | []=>rfl
 | x::rs=>by
  rw[List.map_cons,List.any_cons,qO]
  by_cases e:x=r
  ·subst e;simp
  ·rw[decide_eq_false (fun z=>e (gh z)),Bool.false_or]
   exact oh ⟨fun h=>List.mem_cons_of_mem _ h,fun h=>(List.mem_cons.mp h).resolve_left fun z=>e z.symm⟩
theorem sA {f:Addr}{fd:FuncData}(F:Fun K "_law_lay" "_law_lay" gR f fd) (T:TxB K mg CO)
  (n:Nat) (WS:∀m,n=m+1->Df P w K mg base CX0 (m+1) "_law_lay" PLy (oG K m)):FnOk P w K mg base CX0 (n+1) f fd PLy (oG K n):=by
 refine F.ok ma (fun vs H Q E h=>?_) (fun cdv A outer s H vs Q E hr h=>?_)
 ·obtain⟨many,la,oa,lr,lf,os,rs,rx,rfl,_⟩:=h
  rfl
 obtain⟨many,la,oa,lr,lf,os,rs,rx,rfl,hla,ol,hlr,prs,nla,noa,ris,llen,st,one,few,fewr,z⟩:=h
 cases n with
 | zero=>
  refine⟨_,ai (aK (aD (lx hr.units0) (pv 1) (aO ae) (aG _)) (am (aH ak)) ax) (ai aL (ai aL (ai aL (am aL)))),?_⟩
  have l0:lf=[]:=List.length_eq_zero_iff.mp llen
  subst l0
  refine⟨_,rfl,by show 0≤sizeLine;decide,fun e0 he0=>?_⟩
  have s1:=af he0 (.lst [])
  refine⟨la,e0,[],[],rfl,rfl,SqL.of (s1 _ _ hla),SqL.up,rfl,rfl,_,rfl,aJ ?_⟩
  exact z _ rx (bq.of s1) (s1 _ _ hlr) (ay (fun _ _ z=>z.same s1) prs)
 | succ n=>
  have D:=WS n rfl
  have hu:(A.deeper (PyProof.Rows.envOfC "_law_lay" (ap gR) s.heap.objs.size f cdv)).units+64<cLine:=hr.units
  have hu2:(A.deeper (PyProof.Rows.envOfC "_law_lay" (ap gR) s.heap.objs.size f cdv)).units+2<cLine:=by omega
  have hu3:(A.deeper (PyProof.Rows.envOfC "_law_lay" (ap gR) s.heap.objs.size f cdv)).units+1+2<cLine:=by omega
  have hu6:(A.deeper (PyProof.Rows.envOfC "_law_lay" (ap gR) s.heap.objs.size f cdv)).units+4+2<cLine:=by omega
  refine⟨_,ai (aK (aD (lx hr.units0) (pv 1) (aO ae) (aG _)) (am aL) ax)
   (ai (aI (i:=4) ma.nd rfl (Or.inl rfl) (aO ae))
   (ai (dz PassesOwn.never rfl (cH (pv 1)) (bA (i:=5) ma.nd rfl (Or.inr rfl))
    (ai (si (i0:=6) ma.nd rfl (Or.inl rfl) rfl (show CScope (ap gR) NLy _ _ from by constructor <;> decide +kernel) (cH (pv 2))
      (fun _ _ _ _ _ _=>hE (aD cb (aU (show IxR _ (bZ K) from bv) (pv 0) ak (fun _ _=>rfl)) (pv 6) (aG _)))
      (fun cl C s₂ H₂ fp aa=>bC (show SlR _ (Ao K) from uN) (pv 0) (bS ak) bR) rfl)
    (am (aK (aD (AE (e9 av) hu2) (pv 6) (aO ae) (aG _))
     (am (br (eG PySem.F.plainAttrs_list PySem.F.slot_list_append PySem.F.type_list_append dB (pv 4) (ac (aY (ac (pv 5) (ac
      (aS D hr rfl (bg (E:=fun _ _ _ _=>False)) (ac (pv 0) (ac (dM rfl (show CScope (ap gR) NLy _ _ from by constructor <;> decide +kernel) (cH (pv 1))
        (fun _ _ _ _ _ _=>hE (aD gB (pv 0) (pv 6) (aG _))) (fun cl C s₂ H₂ fp aa=>pv 0) ma.nd) (ac (pv 6) (ac (pv 3) ae))))) ae))) ae)))) ax))))
   (ai (aK (aD (uZ ce hu3) (bz eF rfl T.t.tuple eV (ac (pv 4) ae)) (pv 3) rfl)
    (am (br (eG PySem.F.plainAttrs_list PySem.F.slot_list_append PySem.F.type_list_append dB (pv 3) (ac (bz eF rfl T.t.tuple eV (ac (pv 4) ae)) ae)))) ax)
   (am (aH (aw bB (eG PySem.F.plainAttrs_list PySem.F.slot_list_index PySem.F.type_list_index (u3 ce hu6) (pv 3) (ac (bz eF rfl T.t.tuple eV (ac (pv 4) ae)) ae)) ak)))))),?_⟩
  have mul:List.length os*(n+1)=List.length os*n+List.length os:=Nat.mul_succ _ _
  have opos:0<os.length:=List.length_pos_iff.mpr one
  refine⟨_,rfl,by show 0≤sizeLine;decide,fun e0 he0=>?_⟩
  have s0:=af he0 (.lst [])
  refine⟨la,e0,lf.map V.int,[],rfl,rfl,SqL.of (s0 _ _ hla),SqL.up,bX _,rfl,_,rfl,?_⟩
  rw[show(if false=true then !eN (lf.map V.int) [] else eN (lf.map V.int) [])=false from by
   rw[if_neg Bool.false_ne_true]
   exact mv (by rw[List.length_map,llen];simp)]
  refine aM ?_
  refine⟨by show 0≤sizeLine;decide,fun g hg0=>?_⟩
  have s1:=s0.trans (af hg0 (.lst []))
  have gH:H g=none:=s0.free hg0
  have glr:g≠lr:=(ar hlr gH).symm
  have hh:lf.filter (fun t=>!(Bk.rests t os).isEmpty)=Bk.heads os:=Bk.uo ris st
  refine⟨_,rfl,la,rfl,⟨_,SqL.of (s1 _ _ hla)⟩,fj (K:=K) (a:=la) (xs:=lf.map V.int) (fun i σ H2=>∃v5 v6 dv rx2,σ=[some (.int many),some (.ref la),some (.ref oa),some (.ref lr),some (.ref g),v5,v6]∧bq lr H H2∧H2 g=some (.lst dv)∧dv.length≤i∧
    Paired (cA K H2) dv (Bk.aN (Bk.lay n) os ((lf.take i).filter (fun t=>!(Bk.rests t os).isEmpty)) rs).1∧H2 lr=some (.lst rx2)∧Paired (aV K H2) rx2 (Bk.aN (Bk.lay n) os ((lf.take i).filter (fun t=>!(Bk.rests t os).isEmpty)) rs).2)
   ⟨none,none,[],rx,rfl,bq.of s1,ag,Nat.zero_le _,.nil,s1 _ _ hlr,ay (fun _ _ z=>z.same s1) prs⟩ ?_ ?_ ?_⟩
  ·rintro i σ H2 _ ⟨v5,v6,dv,rx2,rfl,sb,_⟩
   exact SqL.of (sb _ _ nla hla)
  ·rintro i x σ H2 hx ⟨v5,v6,dv,rx2,rfl,sb,hg,dl,pd,hl2,pr2⟩
   obtain⟨t,rfl,ht⟩:=mB hx
   obtain⟨ys,hoa,pos⟩:=OL.sb sb hlr trivial noa ol
   have plen:=pos.length
   have hi:=(List.getElem?_eq_some_iff.mp ht).1
   refine⟨_,rfl,oa,rfl,⟨_,SqL.of hoa⟩,fv (K:=K) (a:=oa) (xs:=ys) (fun j zs H3=>au H2 H3∧zs.length≤j∧Paired (av.rep K H3) zs (Bk.rests t (os.take j))) ⟨au.refl _,Nat.zero_le _,.nil⟩ ?_ (by rw[sizeLine_eq];omega) ?_ ?_⟩
   ·rintro j zs H3 _ ⟨s3,zl,_⟩
    exact⟨SqL.of (s3 _ _ hoa),zl⟩
   ·rintro j y zs H3 hy ⟨s3,zl,pz⟩
    obtain⟨o,ho,ro⟩:=cw pos hy
    obtain⟨b,rfl,qb⟩:=ck (av.mono s3 ro)
    have olen:=(st o (List.mem_of_getElem? ho)).1
    cases o with
    | nil=>simp at olen
    | cons h r=>
     refine⟨_,rfl,b,_,0,.int h,rfl,rfl,qb,gP,_,rfl,rfl,_,rfl,?_⟩
     rw[Bk.uq ho]
     by_cases c:h=t
     ·subst c
      rw[decide_eq_true rfl]
      have e1:Bk.cZ h (h::r)=some r:=by show(if h=h then some r else none)=some r;rw[if_pos rfl]
      rw[e1]
      refine aJ ⟨_,rfl,1,rfl,b,_,rfl,qb,?_,fun p hp=>?_⟩
      ·rw[List.length_map]
       simp[HT.sIx]
      have s4:=af hp (.tup (aW ((h::r).map V.int) (some 1) none))
      refine⟨s3.trans s4,by rw[List.length_append];show zs.length+1≤j+1;omega,bL (ay (fun _ _ z=>av.mono s4 z) pz) (.cons (cj (SqT.of ?_)) .nil)⟩
      rw[ag,show aW ((h::r).map V.int) (some 1) none=r.map V.int from by rw[show(1:Int)=((1:Nat):Int) from rfl,fU];rfl]
     ·rw[decide_eq_false (fun z=>c (V.int.inj z))]
      have e1:Bk.cZ t (h::r)=none:=by show(if h=t then some r else none)=none;rw[if_neg c]
      rw[e1]
      refine aM ⟨s3,by omega,?_⟩
      rw[Option.toList_none,List.append_nil]
      exact pz
   rintro zs H3 c0 ⟨s3,zl,pz⟩ hc0
   rw[plen,List.take_length] at pz
   have s4:=af hc0 (.lst zs)
   have oc:OL K (upd H3 c0 (.lst zs)) c0 (Bk.rests t os):=OL.new hc0 pz
   have s34:=s3.trans s4
   generalize (upd H3 c0 (.lst zs))=H4 at s4 oc s34 ⊢
   refine⟨_,rfl,by show 0≤sizeLine;decide,fun e1 he1=>?_⟩
   have s5:=af he1 (.lst [])
   have oc5:=OL.same s5 oc
   refine⟨Bk.rests t os,[],oc5.rep,⟨e1,[],rfl,SqL.up,.nil⟩,_,rfl,?_⟩
   have s25:=s34.trans s5
   generalize (upd H4 e1 (.lst []))=H5 at s5 oc5 s25 ⊢
   have tk:(lf.take (i+1)).filter (fun t=>!(Bk.rests t os).isEmpty)=(lf.take i).filter (fun t=>!(Bk.rests t os).isEmpty)++(if Bk.rests t os=[] then [] else [t]):=by
    rw[bG ht,List.filter_append]
    congr 1
    by_cases e:Bk.rests t os=[]
    ·rw[if_pos e,List.filter_cons_of_neg (by rw[e];decide)]
     rfl
    ·rw[if_neg e,List.filter_cons_of_pos (by rw[List.isEmpty_eq_false_iff.mpr e];rfl)]
     rfl
   by_cases e:Bk.rests t os=[]
   ·rw[if_pos rfl,decide_eq_true e]
    refine aM ?_
    refine⟨_,_,dv,rx2,rfl,sb.trans (bq.of s25),s25 _ _ hg,by omega,?_,s25 _ _ hl2,?_⟩
    ·rw[tk,if_pos e,List.append_nil]
     exact ay (fun _ _ z=>z.same s25) pd
    ·rw[tk,if_pos e,List.append_nil]
     exact ay (fun _ _ z=>z.same s25) pr2
   ·rw[if_pos rfl,decide_eq_false e]
    refine aJ ?_
    have pt:(fun t=>!(Bk.rests t os).isEmpty) t=true:=by show(!(Bk.rests t os).isEmpty)=true;rw[List.isEmpty_eq_false_iff.mpr e];rfl
    obtain⟨f1,f2⟩:=Bk.A9 (p:=fun t=>!(Bk.rests t os).isEmpty) ht pt
    rw[hh] at f1 f2
    obtain⟨bd1,bd2⟩:=Bk.lX (n:=n) (rs:=rs) f1
    rw[f2] at bd1 bd2
    have hla5:H5 la=some (.lst (lf.map V.int)):=s25 _ _ (sb _ _ nla hla)
    have lfl:(lf.map V.int).length=lf.length:=List.length_map _
    have l8:lf.length≤os.length*(n+1):=by
     have:1*(n+1)≤os.length*(n+1):=Nat.mul_le_mul_right _ opos
     omega
    refine⟨_,rfl,.inl ⟨rfl,_,SqL.of (s25 _ _ hg)⟩,_,rfl,_,rfl,_,rfl,la,rfl,⟨_,SqL.of hla5⟩,fv (K:=K) (a:=la) (xs:=lf.map V.int) (fun j zs H6=>H6=H5∧zs.length≤j∧zs=((lf.take j).filter (fun y=>decide (y≠t))).map V.int) ⟨rfl,Nat.zero_le _,rfl⟩ ?_ (by rw[sizeLine_eq];omega) ?_ ?_⟩
    ·rintro j zs H6 _ ⟨rfl,zl,_⟩
     exact⟨SqL.of hla5,zl⟩
    ·rintro j y zs H6 hy ⟨rfl,zl,rfl⟩
     obtain⟨yy,rfl,hyy⟩:=mB hy
     refine⟨_,rfl,_,rfl,rfl,_,rfl,?_⟩
     rw[bG hyy,List.filter_append,List.map_append]
     by_cases c:yy=t
     ·subst c
      rw[decide_eq_true rfl]
      refine aM ⟨rfl,by omega,?_⟩
      rw[List.filter_cons_of_neg (by simp)]
      simp
     ·rw[decide_eq_false (fun z=>c (V.int.inj z))]
      refine aJ ⟨_,rfl,rfl,by rw[List.length_append];show _+1≤j+1;omega,?_⟩
      rw[List.filter_cons_of_pos (by simpa using c)]
      rfl
    rintro zs2 H6 d0 ⟨rfl,_,rfl⟩ hd0
    rw[lfl,List.take_length]
    have s6:=af hd0 (.lst ((lf.filter (fun y=>decide (y≠t))).map V.int))
    have hd6:(upd H6 d0 (.lst ((lf.filter (fun y=>decide (y≠t))).map V.int))) d0=some (.lst ((lf.filter (fun y=>decide (y≠t))).map V.int)):=ag
    have s26:=s25.trans s6
    generalize (upd H6 d0 (.lst ((lf.filter (fun y=>decide (y≠t))).map V.int)))=H7 at s6 hd6 s26 ⊢
    have hl7:=s26 _ _ hl2
    have oc7:=OL.same s6 oc5
    have d0lr:d0≠lr:=(ar (s25 _ _ hl2) hd0).symm
    have c0lr:c0≠lr:=(ar (s3 _ _ hl2) hc0).symm
    have tm:t∈lf:=List.mem_of_getElem? ht
    have fm:∀x,x∈lf.filter (fun y=>decide (y≠t))↔x∈lf∧x≠t:=fun x=>by rw[List.mem_filter,decide_eq_true_eq]
    have S2:Bk.eu n (·∈lf.filter (fun y=>decide (y≠t))) (Bk.rests t os):=fun o ho=>by
     obtain⟨a1,a2,a3,a4⟩:=st.rests t o ho
     exact⟨a1,a2,a3,fun x=>(a4 x).trans (fm x).symm⟩
    have flen:(lf.filter (fun y=>decide (y≠t))).length=n:=by
     obtain⟨o,ho⟩:=List.exists_mem_of_ne_nil _ e
     obtain⟨a1,_,a3,a4⟩:=S2 o ho
     have nd2:(lf.filter (fun y=>decide (y≠t))).Nodup:=(ris.filter _).imp fun h e=>absurd h (by rw[e];omega)
     rw[←a1]
     exact((List.perm_ext_iff_of_nodup a3 nd2).mpr a4).length_eq.symm
    have rl:(Bk.rests t os).length≤os.length:=by
     have:=List.length_filterMap_le (Bk.cZ t) os
     exact this
    refine⟨_,rfl,_,rfl,many,d0,c0,lr,_,Bk.rests t os,_,rx2,rfl,hd6,oc7,hl7,ay (fun _ _ z=>z.same s26) pr2,d0lr,c0lr,ris.filter _,flen,S2,e,by omega,by omega,fun H8 rx8 sb8 hl8 pr8=>?_⟩
    refine⟨by show 2≤sizeLine;decide,fun tq htq=>?_⟩
    have s9:=af htq (.tup [V.int t,V.int ((Bk.lay n (Bk.rests t os) (Bk.aN (Bk.lay n) os ((lf.take i).filter (fun t=>!(Bk.rests t os).isEmpty)) rs).2).1:Nat)])
    have hg9:=s9 _ _ (sb8 _ _ glr (s26 _ _ hg))
    refine⟨g,dv,_,rfl,rfl,hg9,by rw[sizeLine_eq];omega,?_⟩
    have tqg:tq≠g:=(ar (sb8 _ _ glr (s26 _ _ hg)) htq).symm
    refine⟨_,_,dv++[.ref tq],rx8,rfl,fun b u nb q=>?_,ag,by rw[List.length_append];show dv.length+1≤i+1;omega,?_,?_,?_⟩
    ·rw[aq (ar q gH)]
     exact s9 _ _ (sb8 _ _ nb (s26 _ _ (sb _ _ nb q)))
    ·rw[tk,if_neg e,Bk.gK]
     refine bL (ay (fun _ _ z=>?_) pd) (.cons ⟨tq,rfl,SqT.of ?_⟩ .nil)
     ·obtain⟨p,e,q⟩:=(cA.sb sb8 hl7 trivial (z.same s26)).same s9
      exact⟨p,e,q.soft hg9 trivial⟩
     ·rw[aq tqg,ag]
    ·rw[aq glr.symm]
     exact s9 _ _ hl8
    ·rw[tk,if_neg e,Bk.gK]
     exact ay (fun _ _ z=>(z.same s9).soft hg9 trivial) pr8
  ·rintro σ H2 ⟨v5,v6,dv,rx2,rfl,sb,hg,dl,pd,hl2,pr2⟩
   rw[show(lf.map V.int).length=lf.length from List.length_map _,List.take_length,hh] at pd pr2
   have db:=Bk.kE (n:=n) (os:=os) (rs:=rs)
   have rl:=pr2.length
   refine⟨_,rfl,g,dv,rfl,.inl ⟨SqL.of hg,fun t1 ht1=>?_⟩⟩
   have s3:=af ht1 (.tup dv)
   have ra:∀{H':Hp}{p:Addr},au H2 H'->H' p=some (.tup dv)->aV K H' (.ref p) (Bk.aN (Bk.lay n) os (Bk.heads os) rs).1:=fun s hp=>⟨_,dv,rfl,SqT.of hp,ay (fun _ _ z=>z.same s) pd⟩
   have hk:Bk.lay (n+1) os rs=Bk.keep (Bk.aN (Bk.lay n) os (Bk.heads os) rs).2 (Bk.aN (Bk.lay n) os (Bk.heads os) rs).1:=rfl
   rw[hk] at z
   generalize (Bk.aN (Bk.lay n) os (Bk.heads os) rs).2=rs2 at pr2 z db rl ra
   generalize (Bk.aN (Bk.lay n) os (Bk.heads os) rs).1=rm at pd z ra
   refine⟨_,rfl,enc rm,rs2.map enc,(ra s3 ag).rep,⟨lr,rx2,rfl,SqL.of (s3 _ _ hl2),cB (ay (fun _ _ z=>z.same s3) pr2)⟩,_,rfl,?_⟩
   rw[if_pos rfl,qO]
   by_cases c:rm∈rs2
   ·rw[decide_eq_true c]
    have zk:Bk.keep rs2 rm=(rs2.idxOf rm+2,rs2):=by unfold Bk.keep;rw[if_pos c]
    rw[zk] at z
    refine aM ?_
    obtain⟨i1,i2⟩:=Bk.vZ c
    refine⟨_,rfl,.inl ⟨rfl,_,SqL.of (s3 _ _ hl2)⟩,_,rfl,g,dv,rfl,.inl ⟨SqL.of (s3 _ _ hg),fun t2 ht2=>?_⟩⟩
    have s4:=s3.trans (af ht2 (.tup dv))
    refine⟨_,enc rm,rs2.map enc,rs2.idxOf rm,rfl,(ra s4 ag).rep,⟨lr,rx2,rfl,SqL.of (s4 _ _ hl2),cB (ay (fun _ _ z=>z.same s4) pr2)⟩,by rw[List.getElem?_map,i1];rfl,fun i hi h=>?_,?_⟩
    ·rw[List.getElem?_map] at h
     cases hq:rs2[i]? with
     | none=>rw[hq] at h;cases h
     | some y=>
      rw[hq] at h
      have:=gh (Option.some.inj h)
      subst this
      exact i2 i hi hq
    ·refine⟨_,_,rfl,rfl,?_⟩
     have:=z _ rx2 (sb.trans (bq.of s4)) (s4 _ _ hl2) (ay (fun _ _ z=>z.same s4) pr2)
     exact this
   ·rw[decide_eq_false c]
    have zk:Bk.keep rs2 rm=(rs2.length+2,rs2++[rm]):=by unfold Bk.keep;rw[if_neg c]
    rw[zk] at z
    refine aJ ?_
    obtain⟨i1,i2⟩:=Bk.zP c
    refine⟨_,rfl,.inl ⟨rfl,_,SqL.of (s3 _ _ hl2)⟩,_,rfl,g,dv,rfl,.inl ⟨SqL.of (s3 _ _ hg),fun t2 ht2=>?_⟩⟩
    have s4:=s3.trans (af ht2 (.tup dv))
    have hl4:=s4 _ _ hl2
    refine⟨lr,rx2,.ref t2,rfl,rfl,hl4,by rw[sizeLine_eq];omega,?_⟩
    have t2lr:t2≠lr:=(ar (s3 _ _ hl2) ht2).symm
    have r2:=ra s4 ag
    have pr4:=bL (ay (fun _ _ z=>(z.same s4).soft (u:=.lst (rx2++[.ref t2])) hl4 trivial) pr2) (.cons (r2.soft (u:=.lst (rx2++[.ref t2])) hl4 trivial) .nil)
    have sb4:bq lr H2 (upd (upd (upd H2 t1 (.tup dv)) t2 (.tup dv)) lr (.lst (rx2++[.ref t2]))):=fun b u nb q=>by rw[aq nb];exact s4 _ _ q
    have hg4:=sb4 _ _ glr hg
    have hl5:(upd (upd (upd H2 t1 (.tup dv)) t2 (.tup dv)) lr (.lst (rx2++[.ref t2]))) lr=some (.lst (rx2++[.ref t2])):=ag
    have pd4:=ay (fun _ _ z=>cA.sb sb4 hl2 trivial z) pd
    generalize (upd (upd (upd H2 t1 (.tup dv)) t2 (.tup dv)) lr (.lst (rx2++[.ref t2])))=H5 at pr4 sb4 hg4 hl5 pd4 ⊢
    refine⟨_,rfl,.inl ⟨rfl,_,SqL.of hl5⟩,_,rfl,g,dv,rfl,.inl ⟨SqL.of hg4,fun t3 ht3=>?_⟩⟩
    have s6:=af ht3 (.tup dv)
    have r6:aV K (upd H5 t3 (.tup dv)) (.ref t3) rm:=⟨_,dv,rfl,SqT.of ag,ay (fun _ _ z=>z.same s6) pd4⟩
    refine⟨_,enc rm,(rs2++[rm]).map enc,rs2.length,rfl,r6.rep,⟨lr,_,rfl,SqL.of (s6 _ _ hl5),cB (ay (fun _ _ z=>z.same s6) pr4)⟩,by rw[List.getElem?_map,i1];rfl,fun i hi h=>?_,?_⟩
    ·rw[List.getElem?_map] at h
     cases hq:(rs2++[rm])[i]? with
     | none=>rw[hq] at h;cases h
     | some y=>
      rw[hq] at h
      have:=gh (Option.some.inj h)
      subst this
      exact i2 i hi hq
    ·refine⟨_,_,rfl,rfl,?_⟩
     have:=z _ _ (sb.trans (sb4.trans (bq.of s6))) (s6 _ _ hl5) (ay (fun _ _ z=>z.same s6) pr4)
     exact this
theorem v7 {f:Addr}{fd:FuncData}(F:Fun K "_law_lay" "_law_lay" gR f fd) (T:TxB K mg CO) (b:cD K fd PLy []) (m:mg "_law_lay"=some (.ref f)):∀n,FnOk P w K mg base CX0 (n+1) f fd PLy (oG K n)
 | 0=>sA F T 0 fun m h=>nomatch h
 | n+1=>sA F T (n+1) fun k h=>by
  cases h
  exact⟨f,fd,v7 F T b m n,b,F.kp,m⟩
end
end Ord
namespace Ord
open PySem L2 Mx
section
variable {P:Program}{w:World}{K:W.Frag}{mg:Str->Option Value}{base:Heap}{CO:Addr}
def sB (K:W.Frag):Sp:=fun vs H Q _=>∃(many:Nat) (oa:Addr) (os:Bk.ao),vs=[.int (many:Int),.ref oa]∧OL K H oa os∧Bk.SetOk many os∧
 ∀(t lr:Addr) (H':Hp),au H H'->BookN K H H' t lr many (cm many os).1 (cm many os).2->Q (.ref t) H'
theorem mR:FnScope ["_law_many","_law_orders","_law_rooms","_law_first"] ["_law_many","_law_orders"] (ap jJ):=⟨rfl,rfl,rfl,by decide +kernel,rfl,by decide +kernel,by decide +kernel⟩
theorem v8 (n:Nat):(Mx.aE n).Pairwise (· < ·):=by
 unfold Mx.aE
 rw[List.pairwise_map]
 exact List.pairwise_lt_range.imp fun h=>by omega
theorem xJ {f:Addr}{fd:FuncData}(F:Fun K "_law_book" "_law_book" jJ f fd) (T:TxB K mg CO) (WL:∀n,Df P w K mg base CX0 (n+1) "_law_lay" PLy (oG K n)):FnOk P w K mg base CX0 7 f fd ["_law_many","_law_orders"] (sB K):=by
 refine F.ok mR (fun vs H Q E h=>?_) (fun cdv A outer s H vs Q E hr h=>?_)
 ·obtain⟨many,oa,os,rfl,_⟩:=h
  rfl
 obtain⟨many,oa,os,rfl,ol,S,z⟩:=h
 have m1:=S.m1
 have m5:=S.m5
 have len:=S.len
 have hu:(A.deeper (PyProof.Rows.envOfC "_law_book" (ap jJ) s.heap.objs.size f cdv)).units+64<cLine:=hr.units
 have hu2:(A.deeper (PyProof.Rows.envOfC "_law_book" (ap jJ) s.heap.objs.size f cdv)).units+2<cLine:=by omega
 refine⟨_,ai (aI (i:=2) mR.nd rfl (Or.inl rfl) (aO ae))
  (ai (aK (aD (jl (e9 av) hu2) (pv 1) (aO ae) (aG _)) (am (aH (aY (ac (pv 0) (ac (aO ae) (ac ak ae)))))) ax)
  (ai (aI (i:=3) mR.nd rfl (Or.inl rfl) (aS (WL many) (hr.mono (by omega)) rfl (bg (E:=fun _ _ _ _=>False)) (ac (pv 0) (ac
    (bz (eI rfl) rfl T.t.list gu (ac (bz gC rfl T.t.range jR (ac (pv 0) ae)) ae))
    (ac (aB jq rfl T.t.sorted gv (ac (pv 1) ae)) (ac (pv 2) ae))))))
  (am (aH (aY (ac (pv 0) (ac (pv 2) (ac (pv 3) ae)))))))),?_⟩
 refine⟨by show 0≤sizeLine;decide,fun lr hlr=>?_⟩
 have s1:=af hlr (.lst [])
 have hl1:(upd H lr (.lst [])) lr=some (.lst []):=ag
 generalize (upd H lr (.lst []))=H1 at s1 hl1 ⊢
 refine⟨_,rfl,by show 0≤sizeLine;decide,fun e0 he0=>?_⟩
 have s2:=af he0 (.lst [])
 refine⟨os,[],(OL.same (s1.trans s2) ol).rep,⟨e0,[],rfl,SqL.up,.nil⟩,_,rfl,?_⟩
 rw[if_neg Bool.false_ne_true]
 have hl2:=s2 _ _ hl1
 generalize (upd H1 e0 (.lst []))=H2 at s2 hl2 ⊢
 have s12:=s1.trans s2
 by_cases e:os=[]
 ·rw[decide_eq_true e]
  subst e
  refine aJ ⟨_,rfl,by show 0≤sizeLine;decide,fun l0 hl0=>?_⟩
  have s3:=s12.trans (af hl0 (.lst []))
  refine⟨by show 3≤sizeLine;decide,fun t ht=>?_⟩
  have s4:=af ht (.tup [V.int (many:Int),V.ref l0,V.int 0])
  exact z t l0 _ (s3.trans s4) ⟨s3.free ht,s12.free hl0,by rw[i5];exact ag,[],s4 _ _ ag,by rw[i5];exact .nil⟩
 ·rw[decide_eq_false e]
  refine aM ?_
  refine⟨_,rfl,_,rfl,(many:Int),rfl,fun r0 hr0=>⟨r0,0,(many:Int),rfl,ag,by decide,by decide,by omega,by omega,by omega,fun la hla=>?_⟩⟩
  have s3:=(af hr0 (.rng 0 (many:Int))).trans (af hla (.lst (e8 0 ((many:Int)-0).toNat)))
  have ei:e8 0 ((many:Int)-0).toNat=(Mx.aE many).map V.int:=by rw[cM,show((many:Int)-0).toNat=many by omega]
  have hla3:(upd (upd H2 r0 (.rng 0 (many:Int))) la (.lst (e8 0 ((many:Int)-0).toNat))) la=some (.lst ((Mx.aE many).map V.int)):=by rw[ag,ei]
  have laf:H2 la=none:=(af hr0 (.rng 0 (many:Int))).free hla
  generalize (upd (upd H2 r0 (.rng 0 (many:Int))) la (.lst (e8 0 ((many:Int)-0).toNat)))=H3 at s3 hla3 ⊢
  have o3:=OL.same (s12.trans s3) ol
  refine⟨_,rfl,.ref oa,os,rfl,o3.rep,fun ks hk=>?_,by omega,fun l2 as' kss' hl2' pas perm ris=>?_⟩
  ·have:=(S.sets ks hk).1
   intro e
   subst e
   simp at this
   omega
  have s4:=af hl2' (.lst as')
  have mem:∀o,o∈kss'↔o∈os:=fun o=>perm.mem_iff
  have kl:kss'.length=os.length:=perm.length_eq
  have hl4:=s4 _ _ (s3 _ _ hl2)
  have st:Bk.eu many (·∈Mx.aE many) kss':=fun o ho=>by
   obtain⟨a1,a2,a3,a4⟩:=S.sets o ((mem o).mp ho)
   exact⟨a1,a2,a3,fun x=>(a4 x).trans bD.symm⟩
  have ne':kss'≠[]:=fun h=>e (List.length_eq_zero_iff.mp (by rw[←kl,h];rfl))
  have bnd:kss'.length*many≤24*5:=Nat.mul_le_mul (by omega) m5
  refine⟨_,rfl,(many:Int),la,l2,lr,Mx.aE many,kss',[],[],rfl,s4 _ _ hla3,OL.new hl2' pas,hl4,.nil,(ar hl2 laf).symm,(ar (s3 _ _ hl2) hl2').symm,v8 many,aQ many,st,ne',by omega,by show 0+_<_;omega,fun H5 rx5 sb hl5 pr5=>?_⟩
  rw[Bk.kQ many [] mem] at pr5 ⊢
  have s5:au H H5:=fun b u q=>sb b u (ar q hlr) (s4 _ _ (s3 _ _ (s12 _ _ q)))
  refine⟨_,rfl,_,rfl,_,rfl,by show 3≤sizeLine;decide,fun t ht=>?_⟩
  have s6:=af ht (.tup [V.int (many:Int),V.ref lr,V.int (((Bk.lay many os []).1:Nat):Int)])
  rw[ip e] at z
  exact z t lr _ (s5.trans s6) ⟨s5.free ht,hlr,ag,rx5,s6 _ _ hl5,ay (fun _ _ z=>z.same s6) pr5⟩
end
end Ord
namespace Ord
open PySem L2 Mx
theorem v9 {kss:Bk.ao}(r:jp kss) (nd:kss.Nodup):Bk.bK kss:=by
 refine List.Pairwise.imp₂ (fun a b h1 h2=>?_) r nd
 rcases Bk.pU a b with h|h|h
 ·exact h
 ·exact absurd h h2
 ·rw[jI h] at h1
  cases h1
section
variable {P:Program}{w:World}{K:W.Frag}{mg:Str->Option Value}{base:Heap}{CO:Addr}
theorem jK {H:Hp}{x:V}{many:Int}{rs:List Bk.Room}{first:Int}(h:BookA K H x many rs first):j6.rep K H x (many,rs.map enc,first):=by
 obtain⟨b,l,xs,e,q,ql,pr⟩:=h.ex
 exact⟨b,_,_,_,e,q,rfl,⟨l,xs,rfl,ql,cB pr⟩,rfl⟩
abbrev Ba (K:W.Frag):List V->Hp->VK->Prop:=fun xs H Q=>∃(p:Addr) (ns:List Int),xs=[.ref p]∧SqT K H p (ns.map V.int)∧ns.length<64∧∀(l:Addr) (ns':List Int),H l=none->ns'.Perm ns->ns'.Pairwise (·≤·)->Q (.ref l) (upd H l (.lst (ns'.map V.int)))
def ur (n:Nat) (many:Int) (rs:List Bk.Room) (first:Int):Prop:=((1≤many∧many≤8)∧first≠1)∧((first=0∧rs=[])∨(first≠0∧∃os ks,Bk.rG rs n first []=some os∧(∀o∈os,cL o=aE many.toNat)∧Bk.bK ks∧Bk.fc ks os∧((cm many.toNat ks).1=rs∧((cm many.toNat ks).2:Int)=first)))
structure Ease (n:Nat) (many:Int) (rs:List Bk.Room) (first:Int):Prop where
 few:rs.length<70
 bnd:Bk.Bnd rs n first []
 row:∀os,Bk.rG rs n first []=some os->os.length≤1000∧∀o∈os,o.length≤50
 set:∀os,Bk.rG rs n first []=some os->1≤many->many≤8->(∀o∈os,cL o=aE many.toNat)->os.length<64∧∀ks,Bk.bK ks->Bk.fc ks os->Bk.SetOk many.toNat ks
abbrev NGo:List Str:=["_law_book_here","_law_many","_law_some","_law_first","_law_orders"]
def qP (K:W.Frag) (n:Nat):Sp:=fun vs H Q _=>∃(x:V) (many:Int) (rs:List Bk.Room) (first:Int),vs=[x]∧BookA K H x many rs first∧Ease n many rs first∧(ur n many rs first->∀H',au H H'->Q (.bl true) H')∧(¬ur n many rs first->∀H',au H H'->Q (.bl false) H')
theorem iq:FnScope NGo ["_law_book_here"] (ap iV):=⟨rfl,rfl,rfl,by decide +kernel,rfl,by decide +kernel,by decide +kernel⟩
theorem zR {f:Addr}{fd:FuncData}(n:Nat) (n8:8≤n) (n9:n≤900) (F:Fun K "_law_good" "_law_good" iV f fd) (T:TxB K mg CO) (WR:Df P w K mg base CX0 (n+1) "_law_rests" PRe (j7 K n)) (WLB:Df P w K mg base CX0 7 "_law_book" ["_law_many","_law_orders"] (sB K)) :
  FnOk P w K mg base CX0 (n+2) f fd ["_law_book_here"] (qP K n):=by
 refine F.ok iq (fun vs H Q E h=>?_) (fun cdv A outer s H vs Q E hr h=>?_)
 ·obtain⟨x,many,rs,first,rfl,_⟩:=h
  rfl
 obtain⟨x,many,rs,first,rfl,B,es,zt,zf⟩:=h
 obtain⟨b,l,xs,rfl,q,ql,pr⟩:=id B.ex
 have hu0:(A.deeper (PyProof.Rows.envOfC "_law_good" (ap iV) s.heap.objs.size f cdv)).units+64<cLine:=hr.units
 have hu3:(A.deeper (PyProof.Rows.envOfC "_law_good" (ap iV) s.heap.objs.size f cdv)).units+(e9 ce).dep<cLine:=by show _+3<cLine;omega
 have hu4:(A.deeper (PyProof.Rows.envOfC "_law_good" (ap iV) s.heap.objs.size f cdv)).units+j6.dep<cLine:=by show _+4<cLine;omega
 refine⟨_,ai (oJ (pv 0) (lh rfl (cP (bA (i:=1) iq.nd rfl (by first|exact Or.inl rfl|exact Or.inr rfl)) (cP (bA (i:=2) iq.nd rfl (by first|exact Or.inl rfl|exact Or.inr rfl)) (cP (bA (i:=3) iq.nd rfl (by first|exact Or.inl rfl|exact Or.inr rfl)) jN)))))
  (ai (aK (PW.pt (fW (cq (fq iy iy ak (pv 1) ak)) (eZ (aD cb (pv 3) ak (aG _))))) (am (aH ix)) ax)
  (ai (aK (aD cb (pv 3) ak (aG _)) (am (aH (gf (jl (e9 ce) hu3) (pv 2) (aO ae) (aG _)))) ax)
  (ai (aI (i:=4) iq.nd rfl (by first|exact Or.inl rfl|exact Or.inr rfl) (aS WR hr rfl (bg (E:=fun _ _ _ _=>False)) (ac (pv 2) (ac (pv 3) (ac (aO ae) ae)))))
  (ai (aK (PW.pt (fW (aD li (pv 4) fL (aG _)) (eZ (cq (dg (aB (o4 rfl) rfl T.t.all xX (ac
    (dM rfl (show CScope (ap iV) NGo _ _ from by constructor <;> decide +kernel) (cH (pv 4)) (fun _ _ _ _ _ _=>fu)
     (fun cl C s₂ H₂ fp aa=>gf (show OpR _ _ (wG K false) from lx hr.units0) (aB (show cS _ _ (Ba K) from jk) rfl T.t.sorted gv (ac (pv 0) ae)) (bz (eI rfl) rfl T.t.list gu (ac (bz gC rfl T.t.range jR (ac (pv 2) ae)) ae)) (aG _)) iq.nd) ae))))))) (am (aH ix)) ax)
  (am (aH (gf (jl j6 hu4) (aS WLB (hr.mono (by omega)) rfl (bg (E:=fun _ _ _ _=>False)) (ac (pv 1) (ac (aB (pT rfl) rfl T.t.sorted gv (ac
    (bz (nA av (itE P w) (by show(A.deeper _).units+1+1+1<cLine;omega) rfl (fun I h=>oy I h) (fun⟨p,_,e,_⟩=>⟨p,e⟩)) rfl T.set ye (ac (pv 4) ae)) ae)) ae))) (pv 0) (aG _)))))))),?_⟩
 refine⟨_,rfl,b,_,rfl,q,rfl,_,_,rfl,_,_,rfl,_,_,rfl,rfl,?_⟩
 refine⟨_,rfl,1,many,rfl,rfl,_,rfl,?_⟩
 by_cases c1:1≤many
 case neg=>
  rw[decide_eq_false c1]
  exact aM ⟨_,rfl,aJ (zf (fun g=>c1 g.1.1.1) H (au.refl H))⟩
 rw[decide_eq_true c1]
 refine aJ ⟨many,8,rfl,rfl,_,rfl,?_⟩
 by_cases c2:many≤8
 case neg=>
  rw[decide_eq_false c2]
  exact aJ (zf (fun g=>c2 g.1.1.2) H (au.refl H))
 rw[decide_eq_true c2]
 refine aM ⟨_,rfl,rfl,_,rfl,?_⟩
 by_cases c3:first=1
 ·rw[decide_eq_true (congrArg V.int c3)]
  exact aJ (zf (fun g=>g.1.2 c3) H (au.refl H))
 rw[decide_eq_false fun h=>c3 (V.int.inj h)]
 refine aM ⟨_,rfl,rfl,_,rfl,?_⟩
 by_cases c4:first=0
 ·rw[decide_eq_true (congrArg V.int c4)]
  refine aJ ⟨_,rfl,by show 0≤sizeLine;decide,fun e0 he0=>?_⟩
  have s1:=af he0 (.lst [])
  refine⟨rs.map enc,[],⟨l,xs,rfl,s1.seqL ql,cB (ay (fun _ _ z=>z.same s1) pr)⟩,⟨e0,[],rfl,SqL.up,.nil⟩,?_⟩
  rw[if_neg Bool.false_ne_true]
  by_cases c5:rs=[]
  ·rw[decide_eq_true (by rw[c5];rfl)]
   exact zt ⟨⟨⟨c1,c2⟩,c3⟩,.inl ⟨c4,c5⟩⟩ _ s1
  ·rw[decide_eq_false (fun h=>c5 (List.map_eq_nil_iff.mp h))]
   exact zf (fun g=>g.2.elim (fun g=>c5 g.2) fun g=>g.1 c4) _ s1
 rw[decide_eq_false fun h=>c4 (V.int.inj h)]
 refine aM ⟨_,rfl,_,rfl,by show 0≤sizeLine;decide,fun e0 he0=>?_⟩
 have s1:=af he0 (.lst [])
 refine⟨l,e0,xs,rs,first,[],rfl,s1.seqL ql,ay (fun _ _ z=>z.same s1) pr,ag,by simp;omega,by have:=es.few;omega,es.bnd,fun os eo t H2 s2 ht ot=>?_,fun eo H2 s2=>?_⟩
 case refine_2=>
  refine⟨_,rfl,rfl,_,rfl,aJ ?_⟩
  refine zf (fun g=>?_) H2 (s1.trans s2)
  rcases g.2 with g|⟨_,os,ks,h,_⟩
  ·exact c4 g.1
  ·rw[eo] at h
   cases h
 obtain⟨rl,ro⟩:=es.row os eo
 have s12:=s1.trans s2
 refine⟨_,rfl,rfl,_,rfl,aM ?_⟩
 obtain⟨ys,hy,py⟩:=id ot
 have yl:=py.length
 obtain⟨m,rfl⟩:∃m:Nat,many=m:=⟨many.toNat,(Int.toNat_of_nonneg (by omega)).symm⟩
 refine⟨_,rfl,t,rfl,⟨_,SqL.of hy⟩,fv (K:=K) (a:=t) (xs:=ys) (fun i us H3=>au H2 H3∧us=((os.take i).map fun o=>decide (cL o=aE m)).map V.bl) ⟨au.refl _,rfl⟩ ?_ (by rw[sizeLine_eq];omega) ?_ ?_⟩
 ·rintro i us H3 hi ⟨s3,rfl⟩
  refine⟨SqL.of (s3 _ _ hy),?_⟩
  rw[List.length_map,List.length_map,List.length_take]
  omega
 ·rintro i u us H3 hu ⟨s3,rfl⟩
  obtain⟨o,ho,rp⟩:=cw py hu
  obtain⟨a,rfl,qa⟩:=ck (av.mono s3 rp)
  have lo:=ro o (List.mem_of_getElem? ho)
  refine goT (aJ ⟨_,rfl,a,o,rfl,qa,by omega,fun l3 ns' hl3 perm srt=>?_⟩)
  have s4:=af hl3 (.lst (ns'.map V.int))
  refine⟨_,rfl,(m:Int),rfl,fun r hr0=>⟨r,0,(m:Int),rfl,ag,by decide,by decide,by omega,by omega,by omega,fun l4 hl4=>?_⟩⟩
  have s5:=af hr0 (.rng 0 (m:Int))
  have s6:=af hl4 (.lst (e8 0 ((m:Int)-0).toNat))
  have e4:((m:Int)-0).toNat=m:=by omega
  refine⟨l3,l4,ns'.map V.int,_,rfl,rfl,.inl (.inl (s6 _ _ (s5 _ _ ag))),SqL.up,bX _,by rw[cM];exact bX _,?_⟩
  rw[e4,cM,gD,if_neg Bool.false_ne_true]
  refine⟨s3.trans (s4.trans (s5.trans (by rw[e4,cM] at s6;exact s6))),?_⟩
  rw[bG ho,List.map_append,List.map_append,Mx.iE perm srt]
  rfl
 rintro us H3 p ⟨s3,rfl⟩ hp0
 have e0':os.take ys.length=os:=by rw[yl,List.take_length]
 rw[e0']
 have s4:=af hp0 (.lst ((os.map fun o=>decide (cL o=aE m)).map V.bl))
 refine⟨p,os.map fun o=>decide (cL o=aE m),rfl,SqL.up,_,rfl,?_⟩
 have s14:=s12.trans (s3.trans s4)
 by_cases c5:∀o∈os,cL o=aE m
 case neg=>
  have:((os.map fun o=>decide (cL o=aE m)).all id)=false:=by
   refine Bool.eq_false_iff.mpr fun h=>c5 fun o ho=>?_
   have:=List.all_eq_true.mp h _ (List.mem_map.mpr ⟨o,ho,rfl⟩)
   exact of_decide_eq_true this
  rw[this]
  refine aJ (zf (fun g=>?_) _ s14)
  rcases g.2 with g|⟨_,os',ks,h,h2,_⟩
  ·exact c4 g.1
  ·rw[eo] at h
   cases h
   exact c5 h2
 have:((os.map fun o=>decide (cL o=aE m)).all id)=true:=by
  refine List.all_eq_true.mpr fun b hb=>?_
  obtain⟨o,ho,rfl⟩:=List.mem_map.mp hb
  exact decide_eq_true (c5 o ho)
 rw[this]
 refine aM ?_
 obtain⟨o64,sk⟩:=es.set os eo c1 c2 c5
 refine⟨_,rfl,_,rfl,.ref t,os,rfl,⟨t,ys,rfl,SqL.of (s4 _ _ (s3 _ _ hy)),ay (fun _ _ z=>av.mono (s3.trans s4) z) py⟩,by omega,fun p2 bs ks' hp2 pb nd mem=>?_⟩
 have s5:=af hp2 (gy w p2 bs)
 have kl:ks'.length≤os.length:=bP ks' os nd fun x hx=>(mem x).mp hx
 refine⟨p2,bs,ks',rfl,ag,ay (fun _ _ z=>av.mono s5 z) pb,fun o ho e=>?_,by omega,fun l5 as' kss hl5 pas perm ris=>?_⟩
 ·have:=c5 o ((mem o).mp ho)
  rw[e] at this
  have:=congrArg List.length this
  rw[Mx.aQ,Mx.gr] at this
  simp at this
  omega
 have s6:=af hl5 (.lst as')
 have nd':kss.Nodup:=perm.nodup_iff.mpr nd
 have rs':Bk.bK kss:=v9 ris nd'
 have lk:Bk.fc kss os:=fun o=>(perm.mem_iff).trans (mem o)
 have so:=sk kss rs' lk
 rw[Int.toNat_natCast] at so
 have s16:=s14.trans (s5.trans s6)
 refine⟨m,l5,kss,rfl,OL.new hl5 pas,so,fun t7 lr7 H7 s7 bn=>?_⟩
 have s17:=s16.trans s7
 refine⟨_,rfl,uh m (cm m kss),((m:Int),rs.map enc,first),xH bn.a,jK (B.same s17),?_⟩
 rw[if_neg Bool.false_ne_true]
 by_cases c6:(cm m kss).1=rs∧((cm m kss).2:Int)=first
 ·rw[decide_eq_true (by unfold uh;rw[c6.1,c6.2])]
  exact zt ⟨⟨⟨c1,c2⟩,c3⟩,.inr ⟨c4,os,kss,eo,c5,rs',lk,by rw[Int.toNat_natCast];exact c6⟩⟩ _ s17
 ·rw[decide_eq_false fun h=>c6 (by
   unfold uh at h
   have h1:=congrArg (fun z=>z.2.1) h
   have h2:=congrArg (fun z=>z.2.2) h
   exact⟨kF h1,h2⟩)]
  refine zf (fun g=>?_) _ s17
  rcases g.2 with g|⟨_,os',ks2,h,_,r2,l2,g2⟩
  ·exact c4 g.1
  ·rw[eo] at h
   cases h
   have:ks2=kss:=r2.eq rs' fun o=>(l2 o).trans (lk o).symm
   rw[this,Int.toNat_natCast] at g2
   exact c6 g2
end
end Ord
namespace Bk
open Mx
theorem kG {f:Int×Int->Option ao}{g:Int×Int->ao}:∀(r:Room) (acc:ao),(∀d∈r,f d=some (g d))->cX f r acc=some (acc++r.flatMap fun d=>(g d).map (d.1::·))
 | [],acc,_=>by simp[cX]
 | d::r,acc,h=>by
  unfold cX
  rw[h d List.mem_cons_self]
  dsimp only
  rw[kG r _ fun e he=>h e (List.mem_cons_of_mem _ he),List.flatMap_cons,List.append_assoc]
theorem qQ {rs:List Room}(wf:WF rs):∀(n k:Nat) (seen:List Int),1≤k->k<rs.length+2->k≤n+1->(∀s∈seen,(k:Int)<s)->rG rs n k seen=some (sem rs k)
 | 0,k,seen,h1,hk,hn,hs=>by
  have:k=1:=by omega
  subst this
  rw[cW]
  rfl
 | n+1,k,seen,h1,hk,hn,hs=>by
  by_cases c:k=1
  ·subst c
   rw[cW]
   rfl
  obtain⟨r,e,ok,es⟩:=dh wf (show 2≤k by omega) hk
  have ra:aA rs (k:Int)=r:=eX e (by omega)
  unfold rG
  rw[if_neg (by omega),if_pos ⟨⟨by omega,by omega⟩,fun h=>by have:=hs _ h;omega⟩,ra]
  rw[kG (g:=fun d=>sem rs d.2.toNat) r [] fun d hd=>?_]
  ·rw[List.nil_append,es]
  ·have ah:=ok.ahead d hd
   have fe:((d.2.toNat:Nat):Int)=d.2:=Int.toNat_of_nonneg (by omega)
   have:=qQ wf n d.2.toNat (seen++[(k:Int)]) (by omega) (by omega) (by omega) fun s hs'=>by
    rcases List.mem_append.mp hs' with h|h
    ·have:=hs s h;omega
    ·rw[List.mem_singleton.mp h];omega
   rw[fe] at this
   exact this
theorem qS {rs:List Room}(wf:WF rs):∀(n k:Nat),k≤n->1≤k->k<rs.length+2->bK (sem rs k)
 | 0,k,h,h1,_=>by omega
 | n+1,k,h,h1,hk=>by
  by_cases c:k=1
  ·subst c
   rw[cW]
   exact List.pairwise_singleton _ _
  obtain⟨r,e,ok,es⟩:=dh wf (show 2≤k by omega) hk
  rw[es]
  refine jv ok.rise fun d hd=>?_
  have ah:=ok.ahead d hd
  exact qS wf n d.2.toNat (by omega) (by omega) (by omega)
end Bk
namespace Ord
open PySem L2 Mx
theorem WholeB.bok {m:Nat}{rs:List Bk.Room}{f:Nat}(W:WholeB m rs f):BOk m rs f:=by
 have m1:=W.m1
 have m8:=W.m8
 refine⟨⟨by omega,by omega⟩,fun i r e=>?_,?_,W.nd,W.walk⟩
 ·have ok:=W.rooms.wf i r e
  obtain⟨mt,_⟩:=Bk.tV W.rooms.mask W.rooms.wf e
  have mem:=List.mem_of_getElem? e
  refine⟨⟨ok.ne,ok.rise,fun d hd=>?_⟩,fun d hd=>(mt d hd).2.2.2.2.1,fun d hd=>?_⟩
  ·have ah:=ok.ahead d hd
   exact⟨(mt d hd).1,W.rooms.less r mem d hd,ah.1,by omega⟩
  ·rw[(mt d hd).2.2.2.2.2]
   obtain⟨d0,r',rfl⟩:=List.exists_cons_of_ne_nil ok.ne
   exact(mt d0 List.mem_cons_self).2.2.2.2.2.symm
 ·rw[Int.toNat_natCast]
  rcases W.fst with h|⟨h1,h2,h3⟩
  ·exact .inl (by omega)
  ·exact .inr ⟨by omega,by rw[Bk.cO];omega,h3⟩
theorem xK {n:Nat}{many:Int}{rs:List Bk.Room}{first:Int}(hn:rs.length+2≤n) (es:Ease n many rs first):ur n many rs first↔BOk many rs first:=by
 constructor
 ·rintro⟨⟨⟨m1,m8⟩,f1⟩,h|⟨f0,os,ks,eo,perm,ris,lk,h1,h2⟩⟩
  ·obtain⟨rfl,rfl⟩:=h
   refine⟨⟨m1,m8⟩,fun i r e=>by simp at e,.inl rfl,List.nodup_nil,?_⟩
   rw[Bk.fD (by decide)]
   rfl
  ·have S:=(es.set os eo m1 m8 perm).2 ks ris lk
   have W:=SetOk.whole S
   rw[h1] at W
   have:=W.bok
   rw[h2,Int.toNat_of_nonneg (by omega)] at this
   exact this
 ·intro B
  obtain⟨m,f,rfl,rfl,W⟩:=B.whole es.few
  have m1:=W.m1
  have m8:=W.m8
  have f1:(f:Int)≠1:=by
   rcases W.fst with h|h
   ·omega
   ·omega
  refine⟨⟨⟨by omega,by omega⟩,f1⟩,?_⟩
  rcases W.fst with h|⟨g1,g2,g3⟩
  ·subst h
   refine .inl ⟨rfl,?_⟩
   have:=W.walk
   rw[Bk.fD (by decide)] at this
   have hl:=congrArg List.length this
   rw[Mx.aQ] at hl
   have hl2:2=rs.length+2:=hl
   exact List.length_eq_zero_iff.mp (by omega)
  ·have sa:=Bk.sv W.rooms.wf W.rooms.mask (by omega) g2 g3
   have th:Bk.qw rs:=fun r hr d hd=>by
    obtain⟨i,e⟩:=List.getElem?_of_mem hr
    have:=W.rooms.mask i r e d hd
    exact⟨this.1,this.2.1⟩
   have cn:=Bk.DM W.rooms.wf th W.nd (many:=m) (first:=f) (j:=8) m8 (by omega) g2 (fun o ho=>by rw[(sa o ho).length_eq,Mx.aQ]) W.walk
   have ne:=Bk.fQ W.rooms.wf f f (Nat.le_refl _) (by omega) g2
   refine .inr ⟨by omega,Bk.sem rs f,Bk.sem rs f,Bk.qQ W.rooms.wf n f [] (by omega) g2 (by omega) (fun s h=>nomatch h),fun o ho=>?_,Bk.qS W.rooms.wf f f (Nat.le_refl _) (by omega) g2,fun o=>Iff.rfl,?_⟩
   ·rw[Int.toNat_natCast]
    exact(Mx.iE (sa o ho).symm (Mx.ku m)).symm
   ·rw[Int.toNat_natCast,ip ne,cn]
    exact⟨rfl,rfl⟩
end Ord
namespace Bk
open Mx
theorem i8 {g:Int×Int->ao}:∀(r:Room),(r.flatMap fun d=>(g d).map (d.1::·)).length=(r.map fun d=>(g d).length).sum
 | []=>rfl
 | d::r=>by
  rw[List.flatMap_cons,List.length_append,List.length_map,List.map_cons,List.sum_cons,i8 r]
end Bk
namespace Bk
open Mx
theorem sC {m:Nat}:∀(k:Nat) (o:List Int),o.length=k->o.Nodup->(∀x∈o,0≤x∧x<(m:Int))->o∈i3 m k
 | 0,o,h,_,_=>by
  rw[List.length_eq_zero_iff.mp h]
  exact List.mem_singleton_self _
 | k+1,o,h,nd,b=>by
  rcases List.eq_nil_or_concat o with rfl|⟨i,t,rfl⟩
  ·cases h
  ·rw[List.concat_eq_append] at *
   rw[List.length_append] at h
   rw[List.nodup_append] at nd
   have ih:=sC k i (by simp at h;exact h) nd.1 fun x hx=>b x (List.mem_append_left _ hx)
   show i++[t]∈ext m (i3 m k)
   refine List.mem_flatMap.mpr ⟨i,ih,List.mem_map.mpr ⟨t,List.mem_filter.mpr ⟨bD.mpr (b t (by simp)),?_⟩,rfl⟩⟩
   have:t∉i:=fun z=>nd.2.2 t z t (by simp) rfl
   simpa using this
theorem zS {m:Nat}{o:List Int}(p:o.Perm (aE m)):o∈cR m:=
 sC m o (by rw[p.length_eq,aQ]) (p.nodup_iff.mpr (iD m)) fun x hx=>bD.mp (p.mem_iff.mp hx)
theorem qT {m:Nat}{o:List Int}(h:cL o=aE m):o∈cR m:=zS (h▸(fZ o).symm)
theorem xL {rs:List Room}(wf:WF rs) {k:Nat}(h2:2≤k) (hk:k<rs.length+2) {d:Int×Int}(hd:d∈aA rs k):(sem rs d.2.toNat).length≤(sem rs k).length:=by
 obtain⟨r,e,ok,es⟩:=dh wf h2 hk
 rw[eX e h2] at hd
 rw[es,i8]
 clear es e ok
 induction r with
 | nil=>cases hd
 | cons a r ih=>
  rw[List.map_cons,List.sum_cons]
  rcases List.mem_cons.mp hd with rfl|h
  ·omega
  ·have:=ih h
   omega
theorem md {rs:List Room}(wf:WF rs):∀(n k:Nat) (w:List Int),1≤k->k<rs.length+2->(1:Int)∈w->∀x∈walk n rs (k:Int) w,x∈w∨(0≤x∧(sem rs x.toNat).length≤(sem rs k).length)
 | 0,k,w,_,_,_,x,hx=>.inl hx
 | n+1,k,w,h1,hk,hw,x,hx=>by
  unfold walk at hx
  split at hx
  ·exact .inl hx
  rename_i c
  have h2:2≤k:=by
   rcases Nat.lt_or_ge k 2 with z|z
   ·have:k=1:=by omega
    subst this
    exact absurd hw c
   ·exact z
  rcases List.mem_append.mp hx with h|h
  ·have fold:∀(ds:Room) (w:List Int),(1:Int)∈w->(∀d∈ds,d∈aA rs (k:Int))->∀x∈ds.foldl (fun w d=>walk n rs d.2 w) w,x∈w∨(0≤x∧(sem rs x.toNat).length≤(sem rs k).length):=by
    intro ds
    induction ds with
    | nil=>intro w _ _ x hx;exact .inl hx
    | cons d ds ih=>
     intro w hw hd x hx
     rw[List.foldl_cons] at hx
     rcases ih _ ((gz rs n d.2 w).subset hw) (fun e he=>hd e (List.mem_cons_of_mem _ he)) x hx with h|h
     ·have hm:=hd d List.mem_cons_self
      obtain⟨r,e,ok,es⟩:=dh wf h2 hk
      have hm':=hm
      rw[eX e h2] at hm'
      have ah:=ok.ahead d hm'
      have fe:((d.2.toNat:Nat):Int)=d.2:=Int.toNat_of_nonneg (by omega)
      rw[←fe] at h
      rcases md wf n d.2.toNat w (by omega) (by omega) hw x h with h|⟨h0,h⟩
      ·exact .inl h
      ·exact .inr ⟨h0,Nat.le_trans h (xL wf h2 hk hm)⟩
     ·exact .inr h
   exact fold _ w hw (fun d hd=>hd) x h
  ·rw[List.mem_singleton.mp h]
   exact .inr ⟨by omega,by simp⟩
theorem xM {rs:List Room}(wf:WF rs) {j first:Nat}(f1:1≤first) (fl:first<rs.length+2) (hw:walk j rs (first:Int) [0,1]=aE (rs.length+2)) {k:Nat}(k1:1≤k) (hk:k<rs.length+2):(sem rs k).length≤(sem rs first).length:=by
 have hx:(k:Int)∈walk j rs (first:Int) [0,1]:=by rw[hw];exact bD.mpr ⟨by omega,by omega⟩
 rcases md wf j first [0,1] f1 fl (by simp) _ hx with h|⟨_,h⟩
 ·have:k=1:=by
   rcases List.mem_cons.mp h with h|h
   ·omega
   ·have:=List.mem_singleton.mp h
    omega
  subst this
  rw[cW]
  have:=fQ wf first first (Nat.le_refl _) f1 fl
  exact List.length_pos_iff.mpr this
 ·simpa using h
theorem i9 {f:Int×Int->Option ao}:∀{r:Room}{acc os:ao},cX f r acc=some os->(∀d∈r,∃x,f d=some x)∧os=acc++r.flatMap fun d=>((f d).getD []).map (d.1::·)
 | [],acc,os,h=>by
  cases h
  exact⟨(fun d hd=>nomatch hd),by simp⟩
 | d::r,acc,os,h=>by
  unfold cX at h
  cases e:f d with
  | none=>rw[e] at h;cases h
  | some x=>
   rw[e] at h
   obtain⟨a,b⟩:=i9 h
   refine⟨fun d' hd'=>?_,?_⟩
   ·rcases List.mem_cons.mp hd' with rfl|z
    ·exact⟨x,e⟩
    ·exact a d' z
   ·rw[b,List.flatMap_cons,e,Option.getD_some,List.append_assoc]
theorem yh {rs:List Room}{n:Nat}{k:Int}{seen:List Int}{os:ao}(h:rG rs n k seen=some os):k=1∨InR rs k seen:=by
 cases n with
 | zero=>
  unfold rG at h
  split at h
  ·exact .inl (by assumption)
  ·cases h
 | succ n=>
  unfold rG at h
  split at h
  ·exact .inl (by assumption)
  ·split at h
   ·exact .inr (by assumption)
   ·cases h
def NF (rs:List Room):Prop:=∀k:Int,2≤k->k<(rs.length:Int)+2->(aA rs k).length≤6∧∀d∈aA rs k,d.2≤k
def Gs (rs:List Room) (g:Int->Nat):Prop:=1≤g 1∧∀k:Int,2≤k->k<(rs.length:Int)+2->(∀d∈aA rs k,1≤d.2∧d.2<k)->((aA rs k).map fun d=>g d.2).sum≤g k
theorem sD {h:Int×Int->ao}{g:Int->Nat}:∀{r:Room},(∀d∈r,(h d).length≤g d.2)->(r.flatMap fun d=>(h d).map (d.1::·)).length≤(r.map fun d=>g d.2).sum
 | [],_=>Nat.le_refl _
 | d::r,H=>by
  rw[List.flatMap_cons,List.length_append,List.length_map,List.map_cons,List.sum_cons]
  have:=H d List.mem_cons_self
  have:=sD (h:=h) (g:=g) (r:=r) fun e he=>H e (List.mem_cons_of_mem _ he)
  omega
theorem jL {rs:List Room}{g:Int->Nat}(nf:NF rs) (G:Gs rs g):∀(n:Nat) (k:Int) (seen:List Int) (os:ao),rG rs n k seen=some os->os.length≤g k∧∀o∈os,(o.length:Int)<k
 | n,k,seen,os,h=>by
  have one:k=1->os=[[]]->os.length≤g k∧∀o∈os,(o.length:Int)<k:=fun e1 e2=>by
   subst e1
   subst e2
   refine⟨G.1,fun o ho=>?_⟩
   rw[List.mem_singleton.mp ho]
   decide
  cases n with
  | zero=>
   unfold rG at h
   split at h
   ·cases h
    exact one (by assumption) rfl
   ·cases h
  | succ n=>
   unfold rG at h
   split at h
   ·cases h
    exact one (by assumption) rfl
   ·split at h
    ·rename_i c
     obtain⟨a,b⟩:=i9 h
     rw[List.nil_append] at b
     obtain⟨⟨k2,kl⟩,kn⟩:=c
     obtain⟨_,up⟩:=nf k k2 kl
     have val:∀d∈aA rs k,1≤d.2∧d.2<k:=fun d hd=>by
      obtain⟨x,e⟩:=a d hd
      have u:=up d hd
      rcases yh e with z|⟨z,zn⟩
      ·omega
      ·have:d.2≠k:=fun q=>zn (by rw[q];simp)
       omega
     have each:∀d∈aA rs k,((rG rs n d.2 (seen++[k])).getD []).length≤g d.2∧∀o∈(rG rs n d.2 (seen++[k])).getD [],(o.length:Int)<d.2:=fun d hd=>by
      obtain⟨x,e⟩:=a d hd
      have ih:=jL nf G n d.2 (seen++[k]) x e
      have e':rG rs n d.2 (seen++[k])=some x:=e
      rw[e',Option.getD_some]
      exact ih
     subst b
     refine⟨Nat.le_trans (sD fun d hd=>(each d hd).1) (G.2 k k2 kl val),fun o ho=>?_⟩
     obtain⟨d,hd,ho⟩:=List.mem_flatMap.mp ho
     obtain⟨o',ho',rfl⟩:=List.mem_map.mp ho
     have l1:=(each d hd).2 o' ho'
     have l2:=(val d hd).2
     rw[List.length_cons]
     omega
    ·cases h
theorem wa {rs:List Room}{g:Int->Nat}(nf:NF rs) (G:Gs rs g) (g3:∀k,g k≤1000) (few:rs.length≤90):∀(n:Nat) (k:Int) (seen:List Int),(k≤(n:Int)+1∨k∈seen)->Bnd rs n k seen
 | 0,k,seen,h=>by
  by_cases c:k=1
  ·exact .inl c
  ·refine .inr fun z=>?_
   rcases h with h|h
   ·have:=z.1.1
    omega
   ·exact z.2 h
 | n+1,k,seen,h=>by
  by_cases c:InR rs k seen
  ·refine .inr (.inr ?_)
   obtain⟨⟨k2,kl⟩,kn⟩:=c
   obtain⟨l6,up⟩:=nf k k2 kl
   refine⟨l6,fun d hd=>?_⟩
   have u:=up d hd
   refine⟨wa nf G g3 few n d.2 (seen++[k]) ?_,fun os e=>?_⟩
   ·by_cases z:d.2=k
    ·exact .inr (by rw[z];simp)
    ·rcases h with h|h
     ·exact .inl (by omega)
     ·exact absurd h kn
   ·obtain⟨a,b⟩:=jL nf G n d.2 (seen++[k]) os e
    exact⟨Nat.le_trans a (g3 _),fun o ho=>by have:=b o ho;omega⟩
  ·exact .inr (.inl c)
theorem me {h:Int×Int->ao}:∀{r:Room},(r.map (·.1)).Nodup->(∀d∈r,(h d).Nodup)->(r.flatMap fun d=>(h d).map (d.1::·)).Nodup
 | [],_,_=>List.nodup_nil
 | d::r,nd,H=>by
  rw[List.map_cons,List.nodup_cons] at nd
  rw[List.flatMap_cons,List.nodup_append]
  refine⟨?_,me nd.2 fun e he=>H e (List.mem_cons_of_mem _ he),fun a ha b hb q=>?_⟩
  ·unfold List.Nodup
   rw[List.pairwise_map]
   exact(H d List.mem_cons_self).imp fun z q=>z (List.cons.inj q).2
  ·subst q
   obtain⟨a',_,rfl⟩:=List.mem_map.mp ha
   obtain⟨e,he,hb⟩:=List.mem_flatMap.mp hb
   obtain⟨b',_,q⟩:=List.mem_map.mp hb
   exact nd.1 (List.mem_map.mpr ⟨e,he,(List.cons.inj q).1⟩)
theorem qU {rs:List Room}(nd:∀k:Int,((aA rs k).map (·.1)).Nodup):∀(n:Nat) (k:Int) (seen:List Int) (os:ao),rG rs n k seen=some os->os.Nodup
 | n,k,seen,os,h=>by
  cases n with
  | zero=>
   unfold rG at h
   split at h
   ·cases h
    simp
   ·cases h
  | succ n=>
   unfold rG at h
   split at h
   ·cases h
    simp
   ·split at h
    ·obtain⟨a,b⟩:=i9 h
     rw[List.nil_append] at b
     subst b
     refine me (nd k) fun d hd=>?_
     obtain⟨x,e⟩:=a d hd
     have e':rG rs n d.2 (seen++[k])=some x:=e
     rw[e',Option.getD_some]
     exact qU nd n d.2 (seen++[k]) x e
    ·cases h
end Bk
namespace Bk
open Mx
abbrev g0 (rs:List Room) (k:Int):Nat:=(sem rs k.toNat).length
structure Base (rs:List Room):Prop where
 wf:WF rs
 six:∀r∈rs,r.length≤5
 most:∀k:Nat,1≤k->k<rs.length+2->(sem rs k).length≤24
 few:rs.length≤60
theorem gb {rs:List Room}{k:Int}(h2:2≤k) (hk:k<(rs.length:Int)+2):∃i:Nat,k=(i:Int)+2∧rs[i]?=some (aA rs k):=
 ⟨(k-2).toNat,by omega,fR (by omega)⟩
theorem Base.sum {rs:List Room}(B:Base rs) {k:Int}(h2:2≤k) (hk:k<(rs.length:Int)+2):((aA rs k).map fun d=>g0 rs d.2).sum=g0 rs k:=by
 obtain⟨i,rfl,e⟩:=gb h2 hk
 obtain⟨r,e',ok,es⟩:=dh B.wf (k:=i+2) (by omega) (by omega)
 have e2:aA rs (((i+2:Nat):Int))=r:=eX e' (by omega)
 have e3:((i:Int)+2)=((i+2:Nat):Int):=by omega
 rw[e3,e2]
 unfold g0
 rw[Int.toNat_natCast,es,i8]
theorem Base.pos {rs:List Room}(B:Base rs) {k:Int}(h1:1≤k) (hk:k<(rs.length:Int)+2):1≤g0 rs k:=
 List.length_pos_iff.mpr (fQ B.wf k.toNat k.toNat (Nat.le_refl _) (by omega) (by omega))
theorem Base.le {rs:List Room}(B:Base rs) {k:Int}(h1:1≤k) (hk:k<(rs.length:Int)+2):g0 rs k≤24:=B.most k.toNat (by omega) (by omega)
theorem Base.down {rs:List Room}(B:Base rs) {k:Int}(h2:2≤k) (hk:k<(rs.length:Int)+2) {d:Int×Int}(hd:d∈aA rs k):1≤d.2∧d.2<k:=by
 obtain⟨i,rfl,e⟩:=gb h2 hk
 have:=(B.wf i _ e).ahead d hd
 omega
theorem ir {α:Type}{f g:α->Nat}:∀{l:List α},(∀a∈l,f a≤g a)->(l.map f).sum≤(l.map g).sum
 | [],_=>Nat.le_refl _
 | a::l,h=>by
  rw[List.map_cons,List.map_cons,List.sum_cons,List.sum_cons]
  have:=h a List.mem_cons_self
  have:=ir (l:=l) fun b hb=>h b (List.mem_cons_of_mem _ hb)
  omega
theorem nX {α:Type}(c:Nat) (g:α->Nat):∀l:List α,(l.map fun a=>c*g a).sum=c*(l.map g).sum
 | []=>rfl
 | a::l=>by rw[List.map_cons,List.map_cons,List.sum_cons,List.sum_cons,nX c g l,Nat.mul_add]
def fV (rs:List Room) (i:Nat) (r:Room):List Room:=rs.take i++[r]++rs.drop (i+1)
theorem kX {rs:List Room}{i:Nat}(r:Room) (h:i<rs.length):(fV rs i r).length=rs.length:=by
 unfold fV
 rw[List.length_append,List.length_append,List.length_take,List.length_drop]
 simp
 omega
theorem xN {rs:List Room}{i:Nat}(r:Room) (h:i<rs.length):fV rs i r=rs.set i r:=by
 unfold fV
 rw[List.set_eq_take_append_cons_drop,if_pos h,List.append_assoc]
 rfl
theorem sE {rs:List Room}{i:Nat}(r:Room) (h:i<rs.length) {k:Int}(h2:2≤k):aA (fV rs i r) k=if k=(i:Int)+2 then r else aA rs k:=by
 rw[xN r h]
 unfold aA
 rw[List.getElem?_set]
 by_cases c:k=(i:Int)+2
 ·rw[if_pos c,if_pos (by omega),if_pos (by omega)]
  rfl
 ·rw[if_neg c,if_neg (by omega)]
theorem Bb {rs:List Room}(B:Base rs) {i:Nat}{r:Room}(h:i<rs.length) (l6:r.length≤6) (up:∀d∈r,d.2≤(i:Int)+2):NF (fV rs i r):=fun k h2 hk=>by
 rw[kX r h] at hk
 rw[sE r h h2]
 split
 ·rename_i e
  rw[e]
  exact⟨l6,up⟩
 ·obtain⟨j,e,ej⟩:=gb h2 hk
  exact⟨Nat.le_succ_of_le (B.six _ (List.mem_of_getElem? ej)),fun d hd=>by have:=B.down h2 hk hd;omega⟩
def gc (rs:List Room) (i c:Nat) (k:Int):Nat:=if k<(i:Int)+2 then g0 rs k else c*g0 rs k
theorem mf {rs:List Room}{i c:Nat}{k:Int}(h:k<(i:Int)+2):gc rs i c k=g0 rs k:=if_pos h
theorem ut {rs:List Room}{i c:Nat}{k:Int}(h:¬k<(i:Int)+2):gc rs i c k=c*g0 rs k:=if_neg h
theorem ym {rs:List Room}{i c:Nat}(c1:1≤c) (k:Int):gc rs i c k≤c*g0 rs k:=by
 by_cases h:k<(i:Int)+2
 ·rw[mf h]
  exact Nat.le_mul_of_pos_left _ c1
 ·exact Nat.le_of_eq (ut h)
theorem Bc {rs:List Room}(B:Base rs) {i c:Nat}{r:Room}(h:i<rs.length) (c1:1≤c) (hs:(∀d∈r,1≤d.2∧d.2<(i:Int)+2)->(r.map fun d=>g0 rs d.2).sum≤c*g0 rs ((i:Int)+2)):Gs (fV rs i r) (gc rs i c):=by
 refine⟨?_,fun k h2 hk val=>?_⟩
 ·rw[mf (by omega)]
  exact B.pos (Int.le_refl _) (by omega)
 rw[kX r h] at hk
 rw[sE r h h2] at val ⊢
 by_cases e:k=(i:Int)+2
 ·rw[if_pos e] at val ⊢
  subst e
  rw[ut (Int.lt_irrefl _)]
  refine Nat.le_trans (ir (g:=fun d=>g0 rs d.2) fun d hd=>?_) (hs val)
  exact Nat.le_of_eq (mf (val d hd).2)
 ·rw[if_neg e] at val ⊢
  by_cases lt:k<(i:Int)+2
  ·rw[mf lt]
   refine Nat.le_trans (ir (g:=fun d=>g0 rs d.2) fun d hd=>?_) (Nat.le_of_eq (B.sum h2 hk))
   exact Nat.le_of_eq (mf (by have:=val d hd;omega))
  ·rw[ut lt]
   refine Nat.le_trans (ir (g:=fun d=>c*g0 rs d.2) fun d hd=>ym c1 _) (Nat.le_of_eq ?_)
   rw[nX,B.sum h2 hk]
theorem dW (f:Int×Int->Nat) (a b:Room):((a++b).map f).sum=(a.map f).sum+(b.map f).sum:=by rw[List.map_append,List.sum_append]
theorem j8 {f:Int×Int->Nat}{r:Room}{j:Nat}{d:Int×Int}(e:r[j]?=some d):(r.map f).sum=((r.take j).map f).sum+f d+((r.drop (j+1)).map f).sum:=by
 obtain⟨hj,ej⟩:=List.getElem?_eq_some_iff.mp e
 have:r=r.take j++(d::r.drop (j+1)):=by rw[←ej,List.getElem_cons_drop,List.take_append_drop]
 rw[this]
 rw[dW,List.map_cons,List.sum_cons]
 rw[←this]
 omega
end Bk
namespace Bk
open Mx
inductive RSp (r:Room):Bool->Room->Prop
 | thing {j:Nat}{d:Int×Int}(t:Int) (e:r[j]?=some d):RSp r false (r.take j++[(t,d.2)]++r.drop (j+1))
 | del {j:Nat}{d:Int×Int}(e:r[j]?=some d):RSp r false (r.take j++r.drop (j+1))
 | dbl {j:Nat}{d:Int×Int}(e:r[j]?=some d):RSp r false (r.take j++[d]++r.drop j)
 | num {j:Nat}{d:Int×Int}(n:Int) (e:r[j]?=some d) (h:n=d.2+1∨n=d.2-1):RSp r true (r.take j++[(d.1,n)]++r.drop (j+1))
theorem sF {r:Room}{j:Nat}{x d:Int×Int}(h:x∈r.take j++[d]++r.drop (j+1)):x∈r∨x=d:=by
 rcases List.mem_append.mp h with h|h
 ·rcases List.mem_append.mp h with h|h
  ·exact .inl (List.mem_of_mem_take h)
  ·exact .inr (List.mem_singleton.mp h)
 ·exact .inl (List.mem_of_mem_drop h)
theorem RSp.ok {rs:List Room}(B:Base rs) {i:Nat}{r r':Room}{b:Bool}(e:rs[i]?=some r) (h:RSp r b r') :
  r'.length≤6∧(∀d∈r',d.2≤(i:Int)+2)∧((∀d∈r',1≤d.2∧d.2<(i:Int)+2)->(r'.map fun d=>g0 rs d.2).sum≤(if b then 25 else 2)*g0 rs ((i:Int)+2)):=by
 have il:=(List.getElem?_eq_some_iff.mp e).1
 have r5:=B.six r (List.mem_of_getElem? e)
 have ok:=B.wf i r e
 have ah:∀d∈r,1≤d.2∧d.2<(i:Int)+2:=fun d hd=>by have:=ok.ahead d hd;omega
 have sm:(r.map fun d=>g0 rs d.2).sum=g0 rs ((i:Int)+2):=by
  have:=B.sum (k:=(i:Int)+2) (by omega) (by omega)
  have e2:aA rs ((i:Int)+2)=r:=by
   unfold aA
   rw[show((i:Int)+2-2).toNat=i by omega,e]
   rfl
  rwa[e2] at this
 have ps:=B.pos (k:=(i:Int)+2) (by omega) (by omega)
 cases h with
 | @thing j d t ej=>
  have hj:=(List.getElem?_eq_some_iff.mp ej).1
  have dm:=List.mem_of_getElem? ej
  refine⟨by simp[List.length_take,List.length_drop];omega,fun x hx=>?_,fun _=>?_⟩
  ·rcases sF hx with h|rfl
   ·have:=ah x h;omega
   ·have:=ah d dm;show d.2≤_;omega
  ·rw[dW,dW]
   have:=j8 (f:=fun d=>g0 rs d.2) ej
   simp only[List.map_cons,List.map_nil,List.sum_cons,List.sum_nil,Nat.add_zero]
   rw[if_neg Bool.false_ne_true]
   omega
 | @del j d ej=>
  have hj:=(List.getElem?_eq_some_iff.mp ej).1
  refine⟨by simp[List.length_take,List.length_drop];omega,fun x hx=>?_,fun _=>?_⟩
  ·have hm:x∈r:=(List.mem_append.mp hx).elim List.mem_of_mem_take List.mem_of_mem_drop
   have:=ah x hm
   omega
  ·rw[dW]
   have:=j8 (f:=fun d=>g0 rs d.2) ej
   rw[if_neg Bool.false_ne_true]
   omega
 | @dbl j d ej=>
  have hj:=(List.getElem?_eq_some_iff.mp ej).1
  have dm:=List.mem_of_getElem? ej
  refine⟨by simp[List.length_take,List.length_drop];omega,fun x hx=>?_,fun _=>?_⟩
  ·have hm:x∈r:=by
    rcases List.mem_append.mp hx with h|h
    ·rcases List.mem_append.mp h with h|h
     ·exact List.mem_of_mem_take h
     ·rw[List.mem_singleton.mp h];exact dm
    ·exact List.mem_of_mem_drop h
   have:=ah x hm
   omega
  ·rw[dW,dW]
   have c1:=j8 (f:=fun d=>g0 rs d.2) ej
   have c2:((r.take j).map fun d=>g0 rs d.2).sum+((r.drop j).map fun d=>g0 rs d.2).sum=(r.map fun d=>g0 rs d.2).sum:=by rw[←dW,List.take_append_drop]
   simp only[List.map_cons,List.map_nil,List.sum_cons,List.sum_nil,Nat.add_zero]
   rw[if_neg Bool.false_ne_true]
   omega
 | @num j d n ej hn=>
  have hj:=(List.getElem?_eq_some_iff.mp ej).1
  have dm:=List.mem_of_getElem? ej
  have ad:=ah d dm
  refine⟨by simp[List.length_take,List.length_drop];omega,fun x hx=>?_,fun val=>?_⟩
  ·rcases sF hx with h|rfl
   ·have:=ah x h;omega
   ·show n≤_
    omega
  ·rw[dW,dW]
   have:=j8 (f:=fun d=>g0 rs d.2) ej
   have vn:=val (d.1,n) (by simp)
   have l24:=B.le (k:=n) vn.1 (by have:=vn.2;show n<_;have:n<(i:Int)+2:=vn.2;omega)
   simp only[List.map_cons,List.map_nil,List.sum_cons,List.sum_nil,Nat.add_zero]
   rw[if_pos trivial]
   omega
theorem RSp.things {r r':Room}(nd:(r.map (·.1)).Nodup) (h:RSp r true r'):(r'.map (·.1)).Nodup:=by
 cases h with
 | @num j d n ej hn=>
  obtain⟨hj,e2⟩:=List.getElem?_eq_some_iff.mp ej
  have:(r.take j++[(d.1,n)]++r.drop (j+1)).map (·.1)=r.map (·.1):=by
   have e3:r=r.take j++(d::r.drop (j+1)):=by rw[←e2,List.getElem_cons_drop,List.take_append_drop]
   conv=>rhs;rw[e3]
   simp
  rw[this]
  exact nd
end Bk
namespace Ord
open PySem L2 Mx
theorem qV {m:Nat}{ks:Bk.ao}(m1:1≤m) (m4:m≤4) (ris:Bk.bK ks) (h:∀o∈ks,cL o=aE m):Bk.SetOk m ks:=by
 have mem:∀o∈ks,o∈Bk.cR m:=fun o ho=>Bk.qT (h o ho)
 have l1:=bP ks (Bk.cR m) ris.nodup mem
 have l2:=Bk.i4 m (Bk.in4 m1 m4)
 exact⟨m1,by omega,mem,ris,by omega,fun e=>by omega⟩
theorem sG {n:Nat}{many:Int}{rs:List Bk.Room}{first:Int}{g:Int->Nat}(nf:Bk.NF rs) (G:Bk.Gs rs g) (g3:∀k,g k≤1000) (few:rs.length<70) (m4:many≤4) (fn:first≤(n:Int)+1) (f50:first≤50)
  (h64:∀os,Bk.rG rs n first []=some os->(∀o∈os,o∈Bk.cR many.toNat)->os.length<64):Ease n many rs first where
 few:=few
 bnd:=Bk.wa nf G g3 (by omega) n first [] (.inl fn)
 row:=fun os e=>by
  obtain⟨a,b⟩:=Bk.jL nf G n first [] os e
  exact⟨Nat.le_trans a (g3 _),fun o ho=>by have:=b o ho;omega⟩
 set:=fun os e m1 _ all=>⟨h64 os e fun o ho=>Bk.qT (all o ho),fun ks ris lk=>qV (by omega) (by omega) ris fun o ho=>all o ((lk o).mp ho)⟩
theorem zT {m:Nat}{os:Bk.ao}(m1:1≤m) (m4:m≤4) (nd:os.Nodup) (h:∀o∈os,o∈Bk.cR m):os.length<64:=by
 have l1:=bP os (Bk.cR m) nd h
 have l2:=Bk.i4 m (Bk.in4 m1 m4)
 omega
end Ord
namespace Ord
open PySem L2 Mx
theorem eS (n:Nat) (many first:Int):Ease n many [] first:=by
 have out:∀k seen,¬Bk.InR [] k seen:=fun k seen h=>by
  have:=h.1
  simp at this
  omega
 have val:∀os,Bk.rG [] n first []=some os->os=[[]]:=fun os h=>by
  rcases Bk.yh h with c|c
  ·subst c
   cases n <;> (unfold Bk.rG at h;rw[if_pos rfl] at h;cases h;rfl)
  ·exact absurd c (out _ _)
 refine⟨by decide,?_,fun os h=>?_,fun os h m1 _ all=>?_⟩
 ·cases n with
  | zero=>exact .inr (out _ _)
  | succ n=>exact .inr (.inl (out _ _))
 ·rw[val os h]
  exact⟨by decide,fun o ho=>by rw[List.mem_singleton.mp ho];decide⟩
 ·have:=all [] (by rw[val os h];exact List.mem_singleton_self _)
  have:=congrArg List.length this
  rw[aQ,gr] at this
  simp at this
  omega
structure Dr (many:Nat) (rs:List Bk.Room) (first:Nat):Prop where
 m1:1≤many
 m4:many≤4
 base:Bk.Base rs
 few:rs.length≤41
 fst:first=rs.length+1
 ne:rs≠[]
 things:∀r∈rs,(r.map (·.1)).Nodup
 rows:∀o∈Bk.sem rs first,o.length=many
theorem yn {many:Nat}{os:Bk.ao}(m4:many≤4) (S:Bk.SetOk many os) (ne:os≠[]):Dr many (cm many os).1 (cm many os).2:=by
 have m1:=S.m1
 have W:=SetOk.whole S
 have sm:=SetOk.sem S
 rw[ip ne] at W sm ⊢
 dsimp only at W sm ⊢
 have rise:∀r∈(Bk.lay many os []).2,(r.map (·.1)).Pairwise (· < ·):=fun r hr=>by
  obtain⟨i,e⟩:=List.getElem?_of_mem hr
  exact(W.rooms.wf i r e).rise
 have l41:(Bk.lay many os []).2.length≤41:=by
  have h1:=Bk.jA many _ os [] S.sets ne
  have h2:=Bk.vV many (Bk.in4 m1 m4)
  simp at h1
  omega
 have f1:(Bk.lay many os []).1=(Bk.lay many os []).2.length+1:=by
  rcases Bk.iO many os [] S.sets.plain ne (fun i r h=>by simp at h) with⟨h1,h2⟩|⟨h1,_⟩
  ·rcases W.fst with h|h
   ·have:=(Bk.cg many os [] S.sets.plain ne (fun i r h=>by simp at h)).2.2.lo
    omega
   ·have:=h.1
    have:=h.2.1
    rw[h1] at this
    simp at h2 this
    omega
  ·exact h1
 have lt2:2≤(Bk.lay many os []).1:=by
  rcases W.fst with h|h
  ·have:=(Bk.cg many os [] S.sets.plain ne (fun i r h=>by simp at h)).2.2.lo
   omega
  ·exact h.1
 refine⟨m1,m4,⟨W.rooms.wf,fun r hr=>?_,fun k k1 hk=>?_,by omega⟩,l41,f1,fun h=>?_,fun r hr=>(rise r hr).imp fun h e=>by omega,fun o ho=>?_⟩
 ·have nd:(r.map (·.1)).Nodup:=(rise r hr).imp fun h e=>by omega
  have:=bP (r.map (·.1)) (aE 5) nd fun x hx=>by
   obtain⟨d,hd,rfl⟩:=List.mem_map.mp hx
   obtain⟨i,e⟩:=List.getElem?_of_mem hr
   have h1:=W.rooms.less r hr d hd
   have h2:=(W.rooms.mask i r e d hd).1
   exact bD.mpr ⟨h2,by omega⟩
  rw[List.length_map,aQ] at this
  exact this
 ·have:=Bk.xM W.rooms.wf (by omega) (by omega) W.walk k1 hk
  rw[sm] at this
  exact Nat.le_trans this S.len
 ·rw[h] at f1
  simp at f1
  omega
 ·rw[sm] at ho
  exact(S.sets o ho).1
inductive Spoil (many:Nat) (rs:List Bk.Room) (first:Nat):Int->List Bk.Room->Int->Prop
 | more:Spoil many rs first ((many:Int)+1) rs first
 | up:Spoil many rs first many rs ((first:Int)+1)
 | down:Spoil many rs first many rs ((first:Int)-1)
 | zero:Spoil many rs first 0 [] 0
 | nine:Spoil many rs first 9 [] 0
 | room {i:Nat}{r r':Bk.Room}{b:Bool}(e:rs[i]?=some r) (h:Bk.RSp r b r'):Spoil many rs first many (Bk.fV rs i r') first
 | app {i:Nat}{r:Bk.Room}{f:Int}(e:rs[i]?=some r) (h:f=first∨f=(rs.length:Int)+2):Spoil many rs first many (rs++[r]) f
 | rot:rs≠[]->Spoil many rs first many (rs.drop 1++rs.take 1) first
theorem gN {n:Nat}{many first:Int}{rs:List Bk.Room}(B:Bk.Base rs) (l:rs.length≤45) (hn:60≤n) (m4:many≤4) (f50:first≤50):Ease n many rs first:=by
 have nf:Bk.NF rs:=fun k h2 hk=>by
  obtain⟨i,_,e⟩:=Bk.gb h2 hk
  exact⟨Nat.le_succ_of_le (B.six _ (List.mem_of_getElem? e)),fun d hd=>by have:=B.down h2 hk hd;omega⟩
 have G:Bk.Gs rs fun k=>if 1≤k∧k<(rs.length:Int)+2 then Bk.g0 rs k else 0:=by
  refine⟨?_,fun k h2 hk val=>?_⟩
  ·show 1≤(if 1≤(1:Int)∧(1:Int)<(rs.length:Int)+2 then Bk.g0 rs 1 else 0)
   rw[if_pos ⟨by omega,by omega⟩]
   exact B.pos (Int.le_refl _) (by omega)
  ·show _≤(if 1≤k∧k<(rs.length:Int)+2 then Bk.g0 rs k else 0)
   rw[if_pos ⟨by omega,hk⟩,←B.sum h2 hk]
   refine Bk.ir fun d hd=>?_
   show(if _ then _ else _)≤_
   split
   ·exact Nat.le_refl _
   ·exact Nat.zero_le _
 have le:∀k,(if 1≤k∧k<(rs.length:Int)+2 then Bk.g0 rs k else 0)≤24:=fun k=>by
  split
  ·rename_i h
   exact B.le h.1 h.2
  ·omega
 refine sG nf G (fun k=>Nat.le_trans (le k) (by decide)) (by omega) m4 (by omega) f50 fun os h _=>?_
 have h1:=(Bk.jL nf G n first [] os h).1
 have h2:=le first
 exact Nat.lt_of_le_of_lt (Nat.le_trans h1 h2) (by decide)
end Ord
namespace Bk
open Mx
theorem Gs.mask {rs:List Room}{g:Int->Nat}(G:Gs rs g):Gs rs fun k=>if 1≤k∧k<(rs.length:Int)+2 then g k else 0:=by
 refine⟨?_,fun k h2 hk val=>?_⟩
 ·show 1≤(if 1≤(1:Int)∧(1:Int)<(rs.length:Int)+2 then g 1 else 0)
  rw[if_pos ⟨by omega,by omega⟩]
  exact G.1
 ·show _≤(if 1≤k∧k<(rs.length:Int)+2 then g k else 0)
  rw[if_pos ⟨by omega,hk⟩]
  refine Nat.le_trans (ir fun d hd=>?_) (G.2 k h2 hk val)
  show(if _ then _ else _)≤_
  split
  ·exact Nat.le_refl _
  ·exact Nat.zero_le _
theorem wc (rs:List Room) (k:Int):aA rs k=[]∨aA rs k∈rs:=by
 unfold aA
 cases e:rs[(k-2).toNat]? with
 | none=>exact .inl rfl
 | some r=>exact .inr (List.mem_of_getElem? e)
theorem zU {rs:List Room}{i:Nat}{r x:Room}(h:x∈fV rs i r):x∈rs∨x=r:=by
 rcases List.mem_append.mp h with h|h
 ·rcases List.mem_append.mp h with h|h
  ·exact .inl (List.mem_of_mem_take h)
  ·exact .inr (List.mem_singleton.mp h)
 ·exact .inl (List.mem_of_mem_drop h)
theorem nY {α β:Type}{f g:α->List β}:∀{l:List α},(∀a∈l,f a=g a)->l.flatMap f=l.flatMap g
 | [],_=>rfl
 | a::l,h=>by rw[List.flatMap_cons,List.flatMap_cons,h a List.mem_cons_self,nY fun b hb=>h b (List.mem_cons_of_mem _ hb)]
theorem Base.app {rs:List Room}(B:Base rs) (l:rs.length≤50) {i:Nat}{r:Room}(e:rs[i]?=some r):Base (rs++[r]):=by
 have il:=(List.getElem?_eq_some_iff.mp e).1
 have ok:=B.wf i r e
 have ok':Room.Ok rs.length r:={ ok with ahead:=fun d hd=>by have:=ok.ahead d hd;omega }
 have pre:rs <+: rs++[r]:=List.prefix_append _ _
 have e':(rs++[r])[rs.length]?=some r:=by rw[List.getElem?_append_right (Nat.le_refl _)];simp
 have dn:∀d∈r,d.2.toNat<i+2:=fun d hd=>by have:=ok.ahead d hd;omega
 refine⟨B.wf.snoc ok',fun x hx=>?_,fun k k1 hk=>?_,by simp;omega⟩
 ·rcases List.mem_append.mp hx with h|h
  ·exact B.six x h
  ·rw[List.mem_singleton.mp h]
   exact B.six r (List.mem_of_getElem? e)
 ·by_cases c:k<rs.length+2
  ·rw[fB pre c]
   exact B.most k k1 c
  ·have:k=rs.length+2:=by simp at hk;omega
   subst this
   have h1:=iM e' (fun d hd=>by have:=dn d hd;omega)
   have h2:=iM e dn
   have:sem (rs++[r]) (rs.length+2)=sem rs (i+2):=by
    rw[h1,h2]
    refine nY fun d hd=>?_
    rw[fB pre (by have:=dn d hd;omega)]
   rw[this]
   exact B.most (i+2) (by omega) (by omega)
end Bk
namespace Ord
open PySem L2 Mx
theorem we {many first:Nat}{rs:List Bk.Room}(D:Dr many rs first):Ease 99 ((many:Int)+1) rs first:=by
 have m4:=D.m4
 have few:=D.few
 have ff:=D.fst
 have E:Ease 99 (many:Int) rs first:=gN D.base (by omega) (by decide) (by omega) (by omega)
 refine⟨E.few,E.bnd,E.row,fun os h _ _ all=>?_⟩
 have ne:rs.length≠0:=fun z=>D.ne (List.length_eq_zero_iff.mp z)
 have es:=Bk.qQ D.base.wf 99 first [] (by omega) (by omega) (by omega) (fun s hs=>nomatch hs)
 rw[es] at h
 cases h
 obtain⟨o,ho⟩:=List.exists_mem_of_ne_nil _ (Bk.fQ D.base.wf first first (Nat.le_refl _) (by omega) (by omega))
 have h1:=D.rows o ho
 have h2:=congrArg List.length (all o ho)
 rw[aQ,gr] at h2
 omega
theorem wg {many first:Nat}{rs:List Bk.Room}(D:Dr many rs first) {i:Nat}{r r':Bk.Room}{b:Bool}(e:rs[i]?=some r) (h:Bk.RSp r b r'):Ease 99 (many:Int) (Bk.fV rs i r') first:=by
 have m1:=D.m1
 have m4:=D.m4
 have few:=D.few
 have ff:=D.fst
 have il:=(List.getElem?_eq_some_iff.mp e).1
 obtain⟨l6,up,sm⟩:=h.ok D.base e
 have nf:=Bk.Bb D.base il l6 up
 have pl:=Bk.kX (rs:=rs) (i:=i) r' il
 have G:=(Bk.Bc D.base il (c:=if b then 25 else 2) (by cases b <;> decide) sm).mask
 have le:∀k,(if 1≤k∧k<((Bk.fV rs i r').length:Int)+2 then Bk.gc rs i (if b then 25 else 2) k else 0)≤(if b then 25 else 2)*24:=fun k=>by
  split
  ·rename_i z
   rw[pl] at z
   refine Nat.le_trans (Bk.ym (by cases b <;> decide) k) (Nat.mul_le_mul_left _ (D.base.le z.1 z.2))
  ·exact Nat.zero_le _
 refine sG nf G (fun k=>Nat.le_trans (le k) (by cases b <;> decide)) (by omega) (by omega) (by omega) (by omega) fun os ho all=>?_
 cases b with
 | false=>
  have h1:=(Bk.jL nf G 99 first [] os ho).1
  have h2:=le (first:Int)
  have h3:=Nat.le_trans h1 h2
  rw[if_neg Bool.false_ne_true] at h3
  omega
 | true=>
  refine zT (m:=((many:Int)).toNat) (by omega) (by omega) (Bk.qU (fun k=>?_) 99 first [] os ho) all
  rcases Bk.wc (Bk.fV rs i r') k with z|z
  ·rw[z]
   exact List.nodup_nil
  ·rcases Bk.zU z with q|q
   ·exact D.things _ q
   ·rw[q]
    exact h.things (D.things r (List.mem_of_getElem? e))
theorem mh {f:Int×Int->Option Bk.ao}:∀{r:Bk.Room}{acc:Bk.ao},(∀d∈r,f d=some [[]])->Bk.cX f r acc=some (acc++r.map fun d=>[d.1])
 | [],acc,_=>by
  show some acc=_
  simp
 | d::r,acc,h=>by
  unfold Bk.cX
  rw[h d List.mem_cons_self]
  show Bk.cX f r _=_
  rw[mh fun e he=>h e (List.mem_cons_of_mem _ he)]
  simp
theorem xO {many first:Nat}{rs:List Bk.Room}(D:Dr many rs first):Ease 99 (many:Int) (rs.drop 1++rs.take 1) first:=by
 have m1:=D.m1
 have m4:=D.m4
 have few:=D.few
 have ff:=D.fst
 have B:=D.base
 cases rs with
 | nil=>exact absurd rfl D.ne
 | cons r rs=>
  rw[show(r::rs).drop 1++(r::rs).take 1=rs++[r] from rfl]
  rw[List.length_cons] at few ff
  have ok:=B.wf 0 r rfl
  have one:∀d∈r,d.2=1:=fun d hd=>by have:=ok.ahead d hd;omega
  have at':Bk.aA (rs++[r]) (first:Int)=r:=Bk.eX (k:=first) (by rw[show first-2=rs.length by omega,List.getElem?_append_right (Nat.le_refl _)];simp) (by omega)
  have inr:Bk.InR (rs++[r]) (first:Int) []:=⟨⟨by omega,by simp;omega⟩,by simp⟩
  have n1:¬((first:Int)=1):=by omega
  have gone:∀n seen,Bk.rG (rs++[r]) n 1 seen=some [[]]:=fun n seen=>by cases n <;> (unfold Bk.rG;exact if_pos rfl)
  have val:Bk.rG (rs++[r]) 99 (first:Int) []=some (r.map fun d=>[d.1]):=by
   unfold Bk.rG
   rw[if_neg n1,if_pos inr,at',mh fun d hd=>by rw[one d hd];exact gone _ _]
   rfl
  have l5:=B.six r List.mem_cons_self
  refine⟨by simp;omega,.inr (.inr ?_),fun os h=>?_,fun os h z1 z8 all=>?_⟩
  ·rw[at']
   refine⟨by omega,fun d hd=>?_⟩
   rw[one d hd]
   refine⟨.inl rfl,fun os h=>?_⟩
   rw[gone] at h
   cases h
   exact⟨by decide,fun o ho=>by rw[List.mem_singleton.mp ho];decide⟩
  ·rw[val] at h
   cases h
   refine⟨by rw[List.length_map];omega,fun o ho=>?_⟩
   obtain⟨d,_,rfl⟩:=List.mem_map.mp ho
   show 1≤50
   decide
  ·rw[val] at h
   cases h
   exact⟨by rw[List.length_map];omega,fun ks ris lk=>qV (by omega) (by omega) ris fun o ho=>all o ((lk o).mp ho)⟩
theorem uu {many first:Nat}{rs rs':List Bk.Room}{many' first':Int}(D:Dr many rs first) (S:Spoil many rs first many' rs' first'):Ease 99 many' rs' first':=by
 have m4:=D.m4
 have few:=D.few
 have ff:=D.fst
 cases S with
 | more=>exact we D
 | up=>exact gN D.base (by omega) (by decide) (by omega) (by omega)
 | down=>exact gN D.base (by omega) (by decide) (by omega) (by omega)
 | zero=>exact eS _ _ _
 | nine=>exact eS _ _ _
 | room e h=>exact wg D e h
 | app e h=>exact gN (D.base.app (by omega) e) (by simp;omega) (by decide) (by omega) (by omega)
 | rot=>exact xO D
end Ord
namespace HT
open PySem PySem.Spec PyProof.Rows
section
variable {prog:Program}{w:World}{A:Around}{E:Value->Shared->Prop}{s:Shared}
theorem wj {t sl:Addr}{its:Array Value}{vl vu:Value}{lo hi:Option Int}{Q:Value->Shared->Prop}(g:IsTup s.heap t its) (gs:s.heap.IsSliceOf sl vl vu .none) (pl:IsPart vl lo) (pu:IsPart vu hi)
  (wl:sIx its.size 0 lo=0) (wh:sIx its.size its.size hi=its.size) (h:Q (.ref t) s):wpAny (model prog w) A (getItem (.ref t) (.ref sl)) Q E s:=by
 obtain⟨os,ho,hc,_⟩:=id gs
 have ty:s.TypeIs (.ref sl) "slice":=⟨os,ho,hc⟩
 unfold getItem
 try with_reducible refine wpAny_holding ?_
 first|refine wpAny_bind (wpAny_pure ?_)|skip
 refine wpAny_bind (wpAny_sequenceKey g.typeIs (by decide) ?_)
 refine wpAny_bind (wpAny_callSpecial?_slot (name:=Str.ofString "__getitem__") g.typeIs PyProof.Rows.slot_tuple_getitem (wpAny_call_entry PyProof.Rows.slot_tuple_getitem g.typeIs entry_tuple_getitem ?_ (args_tuple_getitem _ _)))
 show wpAny _ _ (Builtin.Tuple.tupleItemsOf (.ref t) >>= _) _ _ s
 refine wpAny_bind (tupleItemsOf_ g ?_)
 refine wpAny_bind (wpAny_typeOf ty ?_)
 rw[if_pos (by decide)]
 refine wpAny_bind (gn gs pl pu ?_)
 show wpAny _ _ (if (((sIx its.size 0 lo:Nat):Int)==0&&(1:Int)==1&&(sIx its.size its.size hi-sIx its.size 0 lo)==its.size)=true then _ else _) _ _ s
 rw[if_pos (by rw[wl,wh];simp)]
 unfold Builtin.Tuple.tupleIsExact
 refine wpAny_bind (wpAny_bind (wpAny_typeOf g.typeIs (wpAny_pure ?_)))
 rw[if_pos (by decide)]
 exact wpAny_bind (wpAny_rule (wpAny_pure ⟨_,rfl,wpAny_pure h⟩))
end
end HT
namespace L2
open PySem PySem.Spec PyProof.Rows
def kY (K:W.Frag):V->Option Int->Option Int->Hp->VK->Prop:=fun x lo hi H Q=>∃a xs,x=.ref a∧SqT K H a xs∧∀p H',au H H'->SqT K H' p (aW xs lo hi)->Q (.ref p) H'
theorem gj {X:Cx}:SlR X (kY X.K):=by
 intro aa s σ H x v vl vu lo hi sl Q I rx hs pl pu h
 obtain⟨a,xs,rfl,hx,q⟩:=h
 by_cases c:HT.sIx xs.length 0 lo=0∧HT.sIx xs.length xs.length hi=xs.length
 ·cases rx
  obtain⟨its,r,ht,hz⟩:=I.tuple hx
  have hlen:its.toArray.size=xs.length:=by rw[List.size_toArray];exact r.length.symm
  refine⟨"tuple",_,PyProof.Rows.slot_tuple_getitem.lookup,ht.typeIs,?_⟩
  refine HT.wj ht hs pl pu (by rw[hlen];exact c.1) (by rw[hlen];exact c.2) ⟨.ref a,H,I,rfl,q a H (au.refl H) ?_⟩
  have e:aW xs lo hi=xs:=by
   unfold aW
   rw[c.1,c.2,List.drop_zero,Nat.sub_zero,List.take_length]
  rw[e]
  exact hx
 ·exact uN aa s σ H (.ref a) v vl vu lo hi sl Q I rx hs pl pu ⟨a,xs,rfl,hx,c,fun p hp=>q p _ (fun b o e=>by rw[aq (ar e hp)];exact e) (.inl (.inl ag))⟩
end L2
namespace Ord
open PySem L2 Mx
section
variable {P:Program}{w:World}{K:W.Frag}{mg:Str->Option Value}{base:Heap}{CO:Addr}
abbrev NSp:List Str:=["_law_book_here","_law_number","_law_many","_law_some","_law_first","_law_way","_law_bad","_law_at","_law_doors","_law_k","_law_thing","_law_other","_law_change"]
abbrev PSp:List Str:=["_law_book_here","_law_number"]
def ja (K:W.Frag) (H:Hp) (b:Addr) (many:Int) (rs:List Bk.Room) (first:Int):Prop:=∃l xs,SqT K H b [.int many,.ref l,.int first]∧H l=some (.lst xs)∧Paired (aV K H) xs rs
def kZ (K:W.Frag):Sp:=fun vs H Q _=>∃(b:Addr) (N:Int) (many:Nat) (rs:List Bk.Room) (first:Nat),vs=[.ref b,.int N]∧ja K H b many rs first∧rs.length≤100∧(∀r∈rs,r≠[]∧r.length≤100)∧
 ∀(t:Addr) (many':Int) (rs':List Bk.Room) (first':Int) (H':Hp),Spoil many rs first many' rs' first'->au H H'->BookA K H' (.ref t) many' rs' first'->Q (.ref t) H'
theorem cx:FnScope NSp PSp (ap im):=⟨rfl,rfl,rfl,by decide +kernel,rfl,by decide +kernel,by decide +kernel⟩
theorem wk {f:Addr}{fd:FuncData}(F:Fun K "_law_spoilt" "_law_spoilt" im f fd) (T:TxB K mg CO):FnOk P w K mg base CX0 2 f fd PSp (kZ K):=by
 refine F.ok cx (fun vs H Q E h=>?_) (fun cdv A outer s H vs Q E hr h=>?_)
 ·obtain⟨b,N,many,rs,first,rfl,_⟩:=h
  rfl
 obtain⟨b,N,many,rs,first,rfl,⟨l,xs,qb,hl,pr⟩,few,rooms,z⟩:=h
 have hu0:(A.deeper (PyProof.Rows.envOfC "_law_spoilt" (ap im) s.heap.objs.size f cdv)).units+64<cLine:=hr.units
 have hu3:(A.deeper (PyProof.Rows.envOfC "_law_spoilt" (ap im) s.heap.objs.size f cdv)).units+(e9 ce).dep<cLine:=by show _+3<cLine;omega
 refine⟨_,ai (oJ (pv 0) (lh rfl (cP (bA (i:=2) cx.nd rfl (by first|exact Or.inl rfl|exact Or.inr rfl)) (cP (bA (i:=3) cx.nd rfl (by first|exact Or.inl rfl|exact Or.inr rfl)) (cP (bA (i:=4) cx.nd rfl (by first|exact Or.inl rfl|exact Or.inr rfl)) jN)))))
  (ai (aI (i:=5) cx.nd rfl (by first|exact Or.inl rfl|exact Or.inr rfl) (aw cy (pv 1) ak))
  (ai (aK (PW.pt (fW (aD cb (pv 5) ak (aG _)) (eZ (aD (jl (e9 ce) hu3) (pv 3) (aO ae) (aG _)))))
   (ai (aI (i:=6) cx.nd rfl (by first|exact Or.inl rfl|exact Or.inr rfl) (aO (ac (aY (ac (aw bB (pv 2) ak) (ac (pv 3) (ac (pv 4) ae))))
    (ac (aY (ac (pv 2) (ac (pv 3) (ac (aw bB (pv 4) ak) ae))))
    (ac (aY (ac (pv 2) (ac (pv 3) (ac (aw jf (pv 4) ak) ae))))
    (ac (aY (ac ak (ac (aO ae) (ac ak ae)))) ae))))))
   (am (aH (aU (show IxR _ (dA K) from bI) (aw cV (pv 6) (aO (ac (aY (ac ak (ac (aO ae) (ac ak ae)))) ae))) (aw cy (aw eU (pv 1) ak) ak) (fun _ _=>rfl))))) ax)
  (ai (aI (i:=7) cx.nd rfl (by first|exact Or.inl rfl|exact Or.inr rfl) (aw cy (aw eU (pv 1) ak) (aB aR rfl T.t.len cp (ac (pv 3) ae))))
  (ai (aI (i:=8) cx.nd rfl (by first|exact Or.inl rfl|exact Or.inr rfl) (aU (show IxR _ (dA K) from bI) (pv 3) (pv 7) (fun _ _=>rfl)))
  (ai (aI (i:=9) cx.nd rfl (by first|exact Or.inl rfl|exact Or.inr rfl) (aw cy (aw eU (pv 1) ak) (aB aR rfl T.t.len cp (ac (pv 8) ae))))
  (ai (oJ (aU (show IxR _ (bZ K) from bv) (pv 8) (pv 9) (fun _ _=>rfl)) (lh rfl (cP (bA (i:=10) cx.nd rfl (by first|exact Or.inl rfl|exact Or.inr rfl)) (cP (bA (i:=11) cx.nd rfl (by first|exact Or.inl rfl|exact Or.inr rfl)) jN))))
  (ai (aK (aD fX (pv 5) ak (aG _))
   (ai (aI (i:=12) cx.nd rfl (by first|exact Or.inl rfl|exact Or.inr rfl) (aU (show IxR _ (dA K) from bI) (aO (ac (aY (ac (aw bB (pv 10) ak) (ac (pv 11) ae)))
     (ac (aY (ac (pv 10) (ac (aw bB (pv 11) ak) ae)))
     (ac (aY (ac (pv 10) (ac (aw jf (pv 11) ak) ae)))
     (ac (aY (ac (sP oM ak) (ac (pv 11) ae))) ae))))) (aw cy (aw eU (pv 1) ak) ak) (fun _ _=>rfl)))
   (am (aH (aY (ac (pv 2) (ac (aw cV (aw cV (bC (show SlR _ (iz K) from dj) (pv 3) bR (bS (pv 7))) (aO (ac (aw (show OpR _ _ (gL K) from fG) (aw (show OpR _ _ (gL K) from fG) (bC (show SlR _ (kY K) from gj) (pv 8) bR (bS (pv 9))) (aY (ac (pv 12) ae))) (bC (show SlR _ (kY K) from gj) (pv 8) (bS (aw bB (pv 9) ak)) bR)) ae)))
     (bC (show SlR _ (iz K) from dj) (pv 3) (bS (aw bB (pv 7) ak)) bR)) (ac (pv 4) ae))))))) ax)
  (ai (aK (aD cb (pv 5) ak (aG _))
   (am (aH (aY (ac (pv 2) (ac (aw cV (aw cV (bC (show SlR _ (iz K) from dj) (pv 3) bR (bS (pv 7))) (aO (ac (aw (show OpR _ _ (gL K) from fG) (bC (show SlR _ (kY K) from gj) (pv 8) bR (bS (pv 9))) (bC (show SlR _ (kY K) from gj) (pv 8) (bS (aw bB (pv 9) ak)) bR)) ae)))
     (bC (show SlR _ (iz K) from dj) (pv 3) (bS (aw bB (pv 7) ak)) bR)) (ac (pv 4) ae)))))) ax)
  (ai (aK (aD cb (pv 5) ak (aG _))
   (am (aH (aY (ac (pv 2) (ac (aw cV (aw cV (bC (show SlR _ (iz K) from dj) (pv 3) bR (bS (pv 7))) (aO (ac (aw (show OpR _ _ (gL K) from fG) (aw (show OpR _ _ (gL K) from fG) (bC (show SlR _ (kY K) from gj) (pv 8) bR (bS (pv 9))) (aY (ac (aU (show IxR _ (bZ K) from bv) (pv 8) (pv 9) (fun _ _=>rfl)) ae))) (bC (show SlR _ (kY K) from gj) (pv 8) (bS (pv 9)) bR)) ae)))
     (bC (show SlR _ (iz K) from dj) (pv 3) (bS (aw bB (pv 7) ak)) bR)) (ac (pv 4) ae)))))) ax)
  (ai (aK (aD cb (pv 5) ak (aG _))
   (am (aH (aY (ac (pv 2) (ac (aw cV (pv 3) (aO (ac (pv 8) ae))) (ac (aU (show IxR _ (dA K) from bI) (aO (ac (pv 4) (ac (aw bB (aB aR rfl T.t.len cp (ac (pv 3) ae)) ak) ae))) (aw cy (aw eU (pv 1) ak) ak) (fun _ _=>rfl)) ae)))))) ax)
  (am (aH (aY (ac (pv 2) (ac (aw cV (bC (show SlR _ (iz K) from dj) (pv 3) (bS ak) bR) (bC (show SlR _ (iz K) from dj) (pv 3) bR (bS ak))) (ac (pv 4) ae)))))))))))))))),?_⟩
 have hlen:=pr.length
 have small:∀n:Nat,n≤1000->n≤sizeLine:=fun n h=>by rw[sizeLine_eq];omega
 refine⟨_,rfl,b,_,rfl,qb,rfl,_,_,rfl,_,_,rfl,_,_,rfl,rfl,?_⟩
 refine⟨_,rfl,N,8,rfl,rfl,by show(0:Int)<8;decide,?_⟩
 refine⟨_,rfl,rfl,_,rfl,?_⟩
 by_cases c:N % 8=0∨rs=[]
 ·by_cases c0:N % 8=0
  case' pos=>
   rw[decide_eq_true (congrArg V.int c0)]
   refine aJ ?_
   have s1:=au.refl H
  case' neg=>
   have c5:rs=[]:=c.resolve_left c0
   rw[decide_eq_false fun h=>c0 (V.int.inj h)]
   refine aM ⟨_,rfl,by show 0≤sizeLine;decide,fun e0 he0=>?_⟩
   have s1:=af he0 (.lst [])
   refine⟨rs.map enc,[],⟨l,xs,rfl,SqL.of (s1 _ _ hl),cB (ay (fun _ _ z=>z.same s1) pr)⟩,⟨e0,[],rfl,SqL.up,.nil⟩,_,rfl,?_⟩
   rw[if_neg Bool.false_ne_true,decide_eq_true (by rw[c5];rfl)]
   refine aJ ?_
  all_goals
   refine⟨_,rfl,(many:Int),1,rfl,rfl,_,rfl,_,rfl,by show 3≤sizeLine;decide,fun t1 h1=>?_⟩
   have a1:=af h1 (.tup [.int ((many:Int)+1),.ref l,.int (first:Int)])
   refine⟨_,rfl,_,rfl,_,rfl,(first:Int),1,rfl,rfl,by show 3≤sizeLine;decide,fun t2 h2=>?_⟩
   have a2:=af h2 (.tup [.int (many:Int),.ref l,.int ((first:Int)+1)])
   refine⟨_,rfl,_,rfl,_,rfl,(first:Int),1,rfl,rfl,by show 3≤sizeLine;decide,fun t3 h3=>?_⟩
   have a3:=af h3 (.tup [.int (many:Int),.ref l,.int ((first:Int)-1)])
   refine⟨by show 0≤sizeLine;decide,fun e4 he4=>⟨by show 3≤sizeLine;decide,fun t4 h4=>?_⟩⟩
   have a4:=af he4 (.lst [])
   have a5:=af h4 (.tup [.int 0,.ref e4,.int 0])
   refine⟨by show 4≤sizeLine;decide,fun l5 h5=>?_⟩
   have a6:=af h5 (.lst [.ref t1,.ref t2,.ref t3,.ref t4])
   refine⟨_,rfl,by show 0≤sizeLine;decide,fun e6 he6=>⟨by show 3≤sizeLine;decide,fun t6 h6=>⟨by show 1≤sizeLine;decide,fun l7 h7=>?_⟩⟩⟩
   have a7:=af he6 (.lst [])
   have a8:=af h6 (.tup [.int 9,.ref e6,.int 0])
   have a9:=af h7 (.lst [.ref t6])
   refine⟨l5,l7,_,_,rfl,rfl,(a7.trans (a8.trans a9)) _ _ ag,ag,by show 5≤sizeLine;decide,fun l8 h8=>⟨_,rfl,N,8,rfl,rfl,⟨by decide,by decide⟩,N / 8,5,rfl,rfl,by show(0:Int)<5;decide,?_⟩⟩
   have a10:=af h8 (.lst ([.ref t1,.ref t2,.ref t3,.ref t4]++[.ref t6]))
   have b9:=a9.trans a10
   have b8:=a8.trans b9
   have b7:=a7.trans b8
   have b6:=a6.trans b7
   have b5:=a5.trans b6
   have b4:=a4.trans b5
   have b3:=a3.trans b4
   have b2:=a2.trans b3
   have tot:=s1.trans (a1.trans b2)
   have rooms':=ay (fun _ _ (q:aV K H _ _)=>q.same tot) pr
   have hj:N / 8 % 5=0∨N / 8 % 5=1∨N / 8 % 5=2∨N / 8 % 5=3∨N / 8 % 5=4:=by omega
   rcases hj with e|e|e|e|e
   ·exact⟨l8,_,_,.ref t1,rfl,rfl,SqL.up,by rw[e];exact aX (j:=0) rfl,z t1 _ _ _ _ .more tot ⟨⟨t1,l,xs,rfl,SqT.of (b2 _ _ ag),SqL.of (tot _ _ hl),rooms'⟩⟩⟩
   ·exact⟨l8,_,_,.ref t2,rfl,rfl,SqL.up,by rw[e];exact aX (j:=1) rfl,z t2 _ _ _ _ .up tot ⟨⟨t2,l,xs,rfl,SqT.of (b3 _ _ ag),SqL.of (tot _ _ hl),rooms'⟩⟩⟩
   ·exact⟨l8,_,_,.ref t3,rfl,rfl,SqL.up,by rw[e];exact aX (j:=2) rfl,z t3 _ _ _ _ .down tot ⟨⟨t3,l,xs,rfl,SqT.of (b4 _ _ ag),SqL.of (tot _ _ hl),rooms'⟩⟩⟩
   ·exact⟨l8,_,_,.ref t4,rfl,rfl,SqL.up,by rw[e];exact aX (j:=3) rfl,z t4 _ _ _ _ .zero tot ⟨⟨t4,e4,[],rfl,SqT.of (b6 _ _ ag),SqL.of (b5 _ _ ag),.nil⟩⟩⟩
   ·exact⟨l8,_,_,.ref t6,rfl,rfl,SqL.up,by rw[e];exact aX (j:=4) rfl,z t6 _ _ _ _ .nine tot ⟨⟨t6,e6,[],rfl,SqT.of (b9 _ _ ag),SqL.of (b8 _ _ ag),.nil⟩⟩⟩
 have c0:N % 8≠0:=fun h=>c (.inl h)
 have c5:rs≠[]:=fun h=>c (.inr h)
 have r0:0<rs.length:=List.length_pos_iff.mpr c5
 rw[decide_eq_false fun h=>c0 (V.int.inj h)]
 refine aM ⟨_,rfl,by show 0≤sizeLine;decide,fun e0 he0=>?_⟩
 have s1:=af he0 (.lst [])
 refine⟨rs.map enc,[],⟨l,xs,rfl,SqL.of (s1 _ _ hl),cB (ay (fun _ _ z=>z.same s1) pr)⟩,⟨e0,[],rfl,SqL.up,.nil⟩,_,rfl,?_⟩
 rw[if_neg Bool.false_ne_true,decide_eq_false (fun h=>c5 (List.map_eq_nil_iff.mp h))]
 refine aM ⟨_,rfl,N,8,rfl,rfl,⟨by decide,by decide⟩,_,rfl,l,xs,rfl,.inl (SqL.of (s1 _ _ hl)),N / 8,(xs.length:Int),rfl,rfl,by omega,?_⟩
 obtain⟨i,hi,il⟩:∃i:Nat,N / 8 % (xs.length:Int)=(i:Int)∧i<rs.length:=by
  have h1:=Int.emod_nonneg (N / 8) (show(xs.length:Int)≠0 by omega)
  have h2:=Int.emod_lt_of_pos (N / 8) (show(0:Int)<xs.length by omega)
  exact⟨(N / 8 % (xs.length:Int)).toNat,(Int.toNat_of_nonneg h1).symm,by omega⟩
 obtain⟨r,er⟩:∃r,rs[i]?=some r:=⟨_,List.getElem?_eq_getElem il⟩
 obtain⟨x,hx,ra⟩:=dN pr er
 obtain⟨a,ys,rfl,qa,pd⟩:=id ra
 obtain⟨rne,rl⟩:=rooms r (List.mem_of_getElem? er)
 have dl:=pd.length
 have rp:0<r.length:=List.length_pos_iff.mpr rne
 refine⟨_,rfl,_,rfl,l,xs,_,.ref a,rfl,rfl,SqL.of (s1 _ _ hl),by rw[hi];exact aX hx,?_⟩
 refine⟨_,rfl,N,64,rfl,rfl,⟨by decide,by decide⟩,_,rfl,a,ys,rfl,.inr (s1.seqT qa),N / 64,(ys.length:Int),rfl,rfl,by omega,?_⟩
 obtain⟨k,hk,kl⟩:∃k:Nat,N / 64 % (ys.length:Int)=(k:Int)∧k<r.length:=by
  have h1:=Int.emod_nonneg (N / 64) (show(ys.length:Int)≠0 by omega)
  have h2:=Int.emod_lt_of_pos (N / 64) (show(0:Int)<ys.length by omega)
  exact⟨(N / 64 % (ys.length:Int)).toNat,(Int.toNat_of_nonneg h1).symm,by omega⟩
 obtain⟨⟨dt,dk⟩,ed⟩:∃d,r[k]?=some d:=⟨_,List.getElem?_eq_getElem kl⟩
 obtain⟨y,hy,p,rfl,qp⟩:=dN pd ed
 refine⟨_,rfl,_,rfl,a,ys,_,.ref p,rfl,rfl,s1.seqT qa,by rw[hk];exact aX hy,?_⟩
 refine⟨p,_,rfl,s1.seqT qp,rfl,_,_,rfl,_,_,rfl,rfl,?_⟩
 have xi:aW xs none (some (N / 8 % (xs.length:Int)))=xs.take i:=by rw[hi,j4]
 have xj:aW xs (some (N / 8 % (xs.length:Int)+1)) none=xs.drop (i+1):=by rw[hi];exact fU xs (i+1)
 have yi:aW ys none (some (N / 64 % (ys.length:Int)))=ys.take k:=by rw[hk,j4]
 have yj:aW ys (some (N / 64 % (ys.length:Int)+1)) none=ys.drop (k+1):=by rw[hk];exact fU ys (k+1)
 have yk:aW ys (some (N / 64 % (ys.length:Int))) none=ys.drop k:=by rw[hk];exact fU ys k
 refine⟨_,rfl,N % 8,4,rfl,rfl,_,rfl,?_⟩
 by_cases d1:N % 8<4
 ·rw[decide_eq_true d1]
  refine aJ ⟨_,rfl,dt,1,rfl,rfl,_,rfl,by show 2≤sizeLine;decide,fun t1 h1=>?_⟩
  have a1:=af h1 (.tup [.int (dt+1),.int dk])
  refine⟨_,rfl,_,rfl,dk,1,rfl,rfl,by show 2≤sizeLine;decide,fun t2 h2=>?_⟩
  have a2:=af h2 (.tup [.int dt,.int (dk+1)])
  refine⟨_,rfl,_,rfl,dk,1,rfl,rfl,by show 2≤sizeLine;decide,fun t3 h3=>?_⟩
  have a3:=af h3 (.tup [.int dt,.int (dk-1)])
  refine⟨1,rfl,_,rfl,by show 2≤sizeLine;decide,fun t4 h4=>?_⟩
  have a4:=af h4 (.tup [.int (-1),.int dk])
  refine⟨by show 4≤sizeLine;decide,fun l5 h5=>⟨_,rfl,N,512,rfl,rfl,⟨by decide,by decide⟩,N / 512,4,rfl,rfl,by show(0:Int)<4;decide,?_⟩⟩
  have a5:=af h5 (.lst [.ref t1,.ref t2,.ref t3,.ref t4])
  have s5:=s1.trans (a1.trans (a2.trans (a3.trans (a4.trans a5))))
  have hl5:=s5 _ _ hl
  generalize hG:upd _ l5 (.lst [.ref t1,.ref t2,.ref t3,.ref t4])=G at a5 s5 hl5 ⊢
  obtain⟨tc,d',bb,ea,hc,rsp⟩:∃(tc:Addr) (d':Int×Int) (bb:Bool),atI [V.ref t1,V.ref t2,V.ref t3,V.ref t4] (N / 512 % 4)=some (.ref tc)∧G tc=some (.tup [.int d'.1,.int d'.2])∧Bk.RSp r bb (r.take k++[d']++r.drop (k+1)):=by
   have hj:N / 512 % 4=0∨N / 512 % 4=1∨N / 512 % 4=2∨N / 512 % 4=3:=by omega
   rcases hj with e|e|e|e
   ·exact⟨t1,(dt+1,dk),false,by rw[e];exact aX (j:=0) rfl,(a2.trans (a3.trans (a4.trans a5))) _ _ ag,.thing _ ed⟩
   ·exact⟨t2,(dt,dk+1),true,by rw[e];exact aX (j:=1) rfl,(a3.trans (a4.trans a5)) _ _ ag,.num _ ed (.inl rfl)⟩
   ·exact⟨t3,(dt,dk-1),true,by rw[e];exact aX (j:=2) rfl,(a4.trans a5) _ _ ag,.num _ ed (.inr rfl)⟩
   ·exact⟨t4,(-1,dk),false,by rw[e];exact aX (j:=3) rfl,a5 _ _ ag,.thing _ ed⟩
  refine⟨l5,_,_,.ref tc,rfl,rfl,by rw[←hG];exact SqL.up,ea,?_⟩
  refine⟨_,rfl,_,rfl,_,rfl,_,rfl,l,xs,rfl,SqL.of hl5,fun p1 hp1=>?_⟩
  have v1:=af hp1 (.lst (aW xs none (some (N / 8 % (xs.length:Int)))))
  refine⟨_,rfl,_,rfl,_,rfl,a,ys,rfl,(s5.trans v1).seqT qa,fun q1 K1 w1 hq1=>⟨_,rfl,by show 1≤sizeLine;decide,fun q2 hq2=>?_⟩⟩
  have w2:=af hq2 (.tup [.ref tc])
  refine⟨q1,q2,_,_,rfl,rfl,w2.seqT hq1,SqT.of ag,by rw[yi,List.length_take];exact small _ (by simp;omega),fun q3 K3 w3 hq3=>?_⟩
  have w13:=w1.trans (w2.trans w3)
  refine⟨_,rfl,_,rfl,_,1,rfl,rfl,_,rfl,a,ys,rfl,(s5.trans (v1.trans w13)).seqT qa,fun q4 K4 w4 hq4=>?_⟩
  refine⟨q3,q4,_,_,rfl,rfl,w4.seqT hq3,hq4,by rw[yi,yj,List.length_append,List.length_take,List.length_drop];exact small _ (by simp;omega),fun q5 K5 w5 hq5=>⟨by show 1≤sizeLine;decide,fun p2 hp2=>?_⟩⟩
  have w15:=w13.trans (w4.trans w5)
  have room:aV K K5 (.ref q5) (r.take k++[d']++r.drop (k+1)):=by
   have tt:=s5.trans (v1.trans w15)
   have pdt:=ay (fun _ _ (g:cA K H _ _)=>g.same tt) pd
   refine⟨q5,_,rfl,hq5,?_⟩
   rw[yi,yj]
   exact bL (bL (fI k pdt) (.cons ⟨tc,rfl,SqT.of ((v1.trans w15) _ _ hc)⟩ .nil)) (fJ (k+1) pdt)
  have v2:=af hp2 (.lst [.ref q5])
  refine⟨p1,p2,_,_,rfl,rfl,(w15.trans v2) _ _ ag,ag,by rw[xi,List.length_take];exact small _ (by simp;omega),fun p3 hp3=>?_⟩
  have v3:=af hp3 (.lst (aW xs none (some (N / 8 % (xs.length:Int)))++[.ref q5]))
  have v13:=v1.trans (w15.trans (v2.trans v3))
  refine⟨_,rfl,_,rfl,_,1,rfl,rfl,_,rfl,l,xs,rfl,SqL.of (v13 _ _ hl5),fun p4 hp4=>?_⟩
  have v4:=af hp4 (.lst (aW xs (some (N / 8 % (xs.length:Int)+1)) none))
  refine⟨p3,p4,_,_,rfl,rfl,v4 _ _ ag,ag,by rw[xi,xj,List.length_append,List.length_take,List.length_drop];exact small _ (by simp;omega),fun p5 hp5=>?_⟩
  have v5:=af hp5 (.lst ((aW xs none (some (N / 8 % (xs.length:Int)))++[.ref q5])++aW xs (some (N / 8 % (xs.length:Int)+1)) none))
  refine⟨_,rfl,by show 3≤sizeLine;decide,fun t6 ht6=>?_⟩
  have v6:=af ht6 (.tup [.int (many:Int),.ref p5,.int (first:Int)])
  have vq:=v2.trans (v3.trans (v4.trans (v5.trans v6)))
  have tot:=s5.trans (v13.trans (v4.trans (v5.trans v6)))
  refine z t6 _ _ _ _ (.room er rsp) tot ⟨⟨t6,p5,_,rfl,SqT.of ag,SqL.of (v6 _ _ ag),?_⟩⟩
  have prt:=ay (fun _ _ (g:aV K H _ _)=>g.same tot) pr
  have fin:=bL (bL (fI i prt) (.cons (aV.same vq room) .nil)) (fJ (i+1) prt)
  rw[←xi,←xj] at fin
  exact fin
 rw[decide_eq_false d1]
 refine aM ?_
 have s5:=s1
 have hl5:=s5 _ _ hl
 refine⟨_,rfl,rfl,_,rfl,?_⟩
 by_cases d4:N % 8=4
 ·rw[decide_eq_true (congrArg V.int d4)]
  refine aJ ⟨_,rfl,_,rfl,_,rfl,_,rfl,l,xs,rfl,SqL.of hl5,fun p1 hp1=>?_⟩
  have v1:=af hp1 (.lst (aW xs none (some (N / 8 % (xs.length:Int)))))
  refine⟨_,rfl,_,rfl,_,rfl,a,ys,rfl,(s5.trans v1).seqT qa,fun q1 K1 w1 hq1=>?_⟩
  refine⟨_,rfl,_,rfl,_,1,rfl,rfl,_,rfl,a,ys,rfl,(s5.trans (v1.trans w1)).seqT qa,fun q4 K4 w4 hq4=>?_⟩
  refine⟨q1,q4,_,_,rfl,rfl,w4.seqT hq1,hq4,by rw[yi,yj,List.length_take,List.length_drop];exact small _ (by omega),fun q5 K5 w5 hq5=>⟨by show 1≤sizeLine;decide,fun p2 hp2=>?_⟩⟩
  have w15:=w1.trans (w4.trans w5)
  have room:aV K K5 (.ref q5) (r.take k++r.drop (k+1)):=by
   have tt:=s5.trans (v1.trans w15)
   have pdt:=ay (fun _ _ (g:cA K H _ _)=>g.same tt) pd
   refine⟨q5,_,rfl,hq5,?_⟩
   rw[yi,yj]
   exact bL (fI k pdt) (fJ (k+1) pdt)
  have v2:=af hp2 (.lst [.ref q5])
  refine⟨p1,p2,_,_,rfl,rfl,(w15.trans v2) _ _ ag,ag,by rw[xi,List.length_take];exact small _ (by simp;omega),fun p3 hp3=>?_⟩
  have v3:=af hp3 (.lst (aW xs none (some (N / 8 % (xs.length:Int)))++[.ref q5]))
  have v13:=v1.trans (w15.trans (v2.trans v3))
  refine⟨_,rfl,_,rfl,_,1,rfl,rfl,_,rfl,l,xs,rfl,SqL.of (v13 _ _ hl5),fun p4 hp4=>?_⟩
  have v4:=af hp4 (.lst (aW xs (some (N / 8 % (xs.length:Int)+1)) none))
  refine⟨p3,p4,_,_,rfl,rfl,v4 _ _ ag,ag,by rw[xi,xj,List.length_append,List.length_take,List.length_drop];exact small _ (by simp;omega),fun p5 hp5=>?_⟩
  have v5:=af hp5 (.lst ((aW xs none (some (N / 8 % (xs.length:Int)))++[.ref q5])++aW xs (some (N / 8 % (xs.length:Int)+1)) none))
  refine⟨_,rfl,by show 3≤sizeLine;decide,fun t6 ht6=>?_⟩
  have v6:=af ht6 (.tup [.int (many:Int),.ref p5,.int (first:Int)])
  have vq:=v2.trans (v3.trans (v4.trans (v5.trans v6)))
  have tot:=s5.trans (v13.trans (v4.trans (v5.trans v6)))
  refine z t6 _ _ _ _ (.room er (.del ed)) tot ⟨⟨t6,p5,_,rfl,SqT.of ag,SqL.of (v6 _ _ ag),?_⟩⟩
  have prt:=ay (fun _ _ (g:aV K H _ _)=>g.same tot) pr
  have fin:=bL (bL (fI i prt) (.cons (aV.same vq room) .nil)) (fJ (i+1) prt)
  rw[←xi,←xj] at fin
  exact fin
 rw[decide_eq_false fun h=>d4 (V.int.inj h)]
 refine aM ⟨_,rfl,rfl,_,rfl,?_⟩
 by_cases d5:N % 8=5
 ·rw[decide_eq_true (congrArg V.int d5)]
  refine aJ ⟨_,rfl,_,rfl,_,rfl,_,rfl,l,xs,rfl,SqL.of hl5,fun p1 hp1=>?_⟩
  have v1:=af hp1 (.lst (aW xs none (some (N / 8 % (xs.length:Int)))))
  refine⟨_,rfl,_,rfl,_,rfl,a,ys,rfl,(s5.trans v1).seqT qa,fun q1 K1 w1 hq1=>⟨_,rfl,_,rfl,a,ys,_,.ref p,rfl,rfl,(s5.trans (v1.trans w1)).seqT qa,by rw[hk];exact aX hy,by show 1≤sizeLine;decide,fun q2 hq2=>?_⟩⟩
  have w2:=af hq2 (.tup [.ref p])
  refine⟨q1,q2,_,_,rfl,rfl,w2.seqT hq1,SqT.of ag,by rw[yi,List.length_take];exact small _ (by simp;omega),fun q3 K3 w3 hq3=>?_⟩
  have w13:=w1.trans (w2.trans w3)
  refine⟨_,rfl,_,rfl,_,rfl,a,ys,rfl,(s5.trans (v1.trans w13)).seqT qa,fun q4 K4 w4 hq4=>?_⟩
  refine⟨q3,q4,_,_,rfl,rfl,w4.seqT hq3,hq4,by rw[yi,yk,List.length_append,List.length_take,List.length_drop];exact small _ (by simp;omega),fun q5 K5 w5 hq5=>⟨by show 1≤sizeLine;decide,fun p2 hp2=>?_⟩⟩
  have w15:=w13.trans (w4.trans w5)
  have room:aV K K5 (.ref q5) (r.take k++[(dt,dk)]++r.drop k):=by
   have tt:=s5.trans (v1.trans w15)
   have pdt:=ay (fun _ _ (g:cA K H _ _)=>g.same tt) pd
   refine⟨q5,_,rfl,hq5,?_⟩
   rw[yi,yk]
   exact bL (bL (fI k pdt) (.cons ⟨p,rfl,tt.seqT qp⟩ .nil)) (fJ k pdt)
  have v2:=af hp2 (.lst [.ref q5])
  refine⟨p1,p2,_,_,rfl,rfl,(w15.trans v2) _ _ ag,ag,by rw[xi,List.length_take];exact small _ (by simp;omega),fun p3 hp3=>?_⟩
  have v3:=af hp3 (.lst (aW xs none (some (N / 8 % (xs.length:Int)))++[.ref q5]))
  have v13:=v1.trans (w15.trans (v2.trans v3))
  refine⟨_,rfl,_,rfl,_,1,rfl,rfl,_,rfl,l,xs,rfl,SqL.of (v13 _ _ hl5),fun p4 hp4=>?_⟩
  have v4:=af hp4 (.lst (aW xs (some (N / 8 % (xs.length:Int)+1)) none))
  refine⟨p3,p4,_,_,rfl,rfl,v4 _ _ ag,ag,by rw[xi,xj,List.length_append,List.length_take,List.length_drop];exact small _ (by simp;omega),fun p5 hp5=>?_⟩
  have v5:=af hp5 (.lst ((aW xs none (some (N / 8 % (xs.length:Int)))++[.ref q5])++aW xs (some (N / 8 % (xs.length:Int)+1)) none))
  refine⟨_,rfl,by show 3≤sizeLine;decide,fun t6 ht6=>?_⟩
  have v6:=af ht6 (.tup [.int (many:Int),.ref p5,.int (first:Int)])
  have vq:=v2.trans (v3.trans (v4.trans (v5.trans v6)))
  have tot:=s5.trans (v13.trans (v4.trans (v5.trans v6)))
  refine z t6 _ _ _ _ (.room er (.dbl ed)) tot ⟨⟨t6,p5,_,rfl,SqT.of ag,SqL.of (v6 _ _ ag),?_⟩⟩
  have prt:=ay (fun _ _ (g:aV K H _ _)=>g.same tot) pr
  have fin:=bL (bL (fI i prt) (.cons (aV.same vq room) .nil)) (fJ (i+1) prt)
  rw[←xi,←xj] at fin
  exact fin
 rw[decide_eq_false fun h=>d5 (V.int.inj h)]
 refine aM ⟨_,rfl,rfl,_,rfl,?_⟩
 by_cases d6:N % 8=6
 ·rw[decide_eq_true (congrArg V.int d6)]
  refine aJ ⟨_,rfl,_,rfl,_,rfl,by show 1≤sizeLine;decide,fun p2 hp2=>?_⟩
  have v2:=af hp2 (.lst [.ref a])
  refine⟨l,p2,xs,_,rfl,rfl,v2 _ _ hl5,ag,small _ (by simp;omega),fun p3 hp3=>?_⟩
  have v3:=af hp3 (.lst (xs++[.ref a]))
  refine⟨_,rfl,_,rfl,l,xs,rfl,.inl (SqL.of ((v2.trans v3) _ _ hl5)),(xs.length:Int),2,rfl,rfl,by show 2≤sizeLine;decide,fun l4 hl4=>?_⟩
  have v4:=af hl4 (.lst [.int (first:Int),.int ((xs.length:Int)+2)])
  refine⟨_,rfl,N,512,rfl,rfl,⟨by decide,by decide⟩,N / 512,2,rfl,rfl,by show(0:Int)<2;decide,?_⟩
  obtain⟨f',ef,hf⟩:∃f':Int,atI [V.int (first:Int),V.int ((xs.length:Int)+2)] (N / 512 % 2)=some (.int f')∧(f'=(first:Int)∨f'=(rs.length:Int)+2):=by
   have hj:N / 512 % 2=0∨N / 512 % 2=1:=by omega
   rcases hj with e|e
   ·exact⟨_,by rw[e];exact aX (j:=0) rfl,.inl rfl⟩
   ·exact⟨_,by rw[e];exact aX (j:=1) rfl,.inr (by omega)⟩
  refine⟨l4,_,_,.int f',rfl,rfl,SqL.up,ef,by show 3≤sizeLine;decide,fun t6 ht6=>?_⟩
  have v6:=af ht6 (.tup [.int (many:Int),.ref p3,.int f'])
  have tot:=s5.trans (v2.trans (v3.trans (v4.trans v6)))
  have prt:=ay (fun _ _ (g:aV K H _ _)=>g.same tot) pr
  exact z t6 _ _ _ _ (.app er hf) tot ⟨⟨t6,p3,_,rfl,SqT.of ag,SqL.of ((v4.trans v6) _ _ ag),bL prt (.cons (ra.same tot) .nil)⟩⟩
 rw[decide_eq_false fun h=>d6 (V.int.inj h)]
 refine aM ⟨_,rfl,_,rfl,1,rfl,l,xs,rfl,SqL.of hl5,fun p1 hp1=>?_⟩
 have v1:=af hp1 (.lst (aW xs (some 1) none))
 refine⟨_,rfl,1,rfl,l,xs,rfl,SqL.of (v1 _ _ hl5),fun p2 hp2=>?_⟩
 have v2:=af hp2 (.lst (aW xs none (some 1)))
 have x1:aW xs (some 1) none=xs.drop 1:=fU xs 1
 have x2:aW xs none (some 1)=xs.take 1:=j4 xs 1
 refine⟨p1,p2,_,_,rfl,rfl,v2 _ _ ag,ag,by rw[x1,x2,List.length_take,List.length_drop];exact small _ (by omega),fun p3 hp3=>?_⟩
 have v3:=af hp3 (.lst (aW xs (some 1) none++aW xs none (some 1)))
 refine⟨_,rfl,by show 3≤sizeLine;decide,fun t6 ht6=>?_⟩
 have v6:=af ht6 (.tup [.int (many:Int),.ref p3,.int (first:Int)])
 have tot:=s5.trans (v1.trans (v2.trans (v3.trans v6)))
 have prt:=ay (fun _ _ (g:aV K H _ _)=>g.same tot) pr
 refine z t6 _ _ _ _ (.rot c5) tot ⟨⟨t6,p3,_,rfl,SqT.of ag,SqL.of (v6 _ _ ag),?_⟩⟩
 have fin:=bL (fJ 1 prt) (fI 1 prt)
 rw[←x1,←x2] at fin
 exact fin
end
end Ord
namespace L2
open PySem PySem.Spec PyProof.Rows
def HS (X:Cx) (R:VK) (st:Stmt) (A B:St->Hp->Prop):Prop:=∃t,PS X st t∧∀(D:Ends) (σ:St) (H:Hp),A σ H->(∀σ' H',B σ' H'->D.nx σ' H')->(∀v H',R v H'->D.rt v H')->t D σ H
def HSs (X:Cx) (R:VK) (sts:List Stmt) (A B:St->Hp->Prop):Prop:=∃t,PSs X sts t∧∀(D:Ends) (σ:St) (H:Hp),A σ H->(∀σ' H',B σ' H'->D.nx σ' H')->(∀v H',R v H'->D.rt v H')->t D σ H
theorem HSs.nil {X:Cx}{R:VK}{A:St->Hp->Prop}:HSs X R [] A A:=⟨_,ax,fun _ σ H a q _=>q σ H a⟩
theorem HS.cons {X:Cx}{R:VK}{st:Stmt}{rest:List Stmt}{A B C:St->Hp->Prop}(h1:HS X R st A B) (h2:HSs X R rest B C):HSs X R (st::rest) A C:=by
 obtain⟨t,ht,h⟩:=h1
 obtain⟨u,hu,k⟩:=h2
 exact⟨_,ai ht hu,fun D σ H a q r=>h { D with nx:=u D } σ H a (fun σ' H' m=>k D σ' H' m q r) r⟩
end L2
namespace Ord
open PySem L2 Mx
theorem drawn {many:Nat}{os:Bk.ao}(m4:many≤4) (S:Bk.SetOk many os):(cm many os).1.length≤41∧∀r∈(cm many os).1,r≠[]∧r.length≤5:=by
 by_cases e:os=[]
 ·subst e
  exact⟨Nat.zero_le _,fun r h=>nomatch h⟩
 ·have D:=yn m4 S e
  refine⟨D.few,fun r hr=>⟨?_,D.base.six r hr⟩⟩
  obtain⟨i,ei⟩:=List.getElem?_of_mem hr
  exact(D.base.wf i r ei).ne
theorem uv {many:Nat}{os:Bk.ao}{many' first':Int}{rs':List Bk.Room}(m4:many≤4) (S:Bk.SetOk many os) (h:Spoil many (cm many os).1 (cm many os).2 many' rs' first'):Ease 99 many' rs' first':=by
 by_cases e:os=[]
 ·subst e
  cases h with
  | more=>exact eS _ _ _
  | up=>exact eS _ _ _
  | down=>exact eS _ _ _
  | zero=>exact eS _ _ _
  | nine=>exact eS _ _ _
  | room e h=>cases e
  | app e h=>cases e
  | rot h=>exact absurd rfl h
 ·exact uu (yn m4 S e) h
abbrev cU (i:Nat):Stmt:=(cC i6).getD i (.Pass ⟨0,0,0,0⟩)
abbrev NW:List Str:=["_law_script","_law_many","_law_book_here","_law_bad","_law_due","_law_handed"]
theorem jb:FnScope NW ["_law_script"] (ap i6):=⟨rfl,rfl,rfl,by decide +kernel,rfl,by decide +kernel,by decide +kernel⟩
abbrev XL (P:Program) (w:World) (K:W.Frag) (mg:Str->Option Value) (base:Heap) (f:Addr) (cdv:Value) (A:Around) (outer:List Env) (s:Shared) (H:Hp) (E:XK):Cx:=(cQ CX0 P w K mg base NW "law" (ap i6) f cdv A outer s H E).nox
abbrev RT:VK:=fun v _=>v=.bl true
abbrev RM (n:Nat) (A:Around) (s:Shared) (f:Addr) (cdv:Value):Prop:=Room n (A.deeper (PyProof.Rows.envOfC "law" (ap i6) s.heap.objs.size f cdv))
section
variable {P:Program}{w:World}{K:W.Frag}{mg:Str->Option Value}{base:Heap}{CO:Addr}{f:Addr}{cdv:Value}{A:Around}{outer:List Env}{s:Shared}{H0:Hp}{E:XK}
theorem ja.same {H H':Hp}{b:Addr}{many first:Int}{rs:List Bk.Room}(h:ja K H b many rs first) (s:au H H'):ja K H' b many rs first:=by
 obtain⟨l,xs,q,hl,pr⟩:=h
 exact⟨l,xs,s.seqT q,s _ _ hl,ay (fun _ _ z=>z.same s) pr⟩
theorem ja.a {H:Hp}{b:Addr}{many first:Int}{rs:List Bk.Room}(h:ja K H b many rs first):BookA K H (.ref b) many rs first:=by
 obtain⟨l,xs,q,hl,pr⟩:=h
 exact⟨⟨b,l,xs,rfl,q,SqL.of hl,pr⟩⟩
def C0 (K:W.Frag):St->Hp->Prop:=fun σ H=>∃a:Addr,σ=[some (.ref a),none,none,none,none,none]∧Scr K H a
def C2 (K:W.Frag):St->Hp->Prop:=fun σ H=>∃(a b:Addr) (v1:V) (many:Nat) (os:Bk.ao),σ=[some (.ref a),some v1,some (.ref b),none,none,none]∧Scr K H a∧many≤4∧Bk.SetOk many os∧ja K H b many (cm many os).1 (cm many os).2
def C3 (K:W.Frag):St->Hp->Prop:=fun σ H=>∃(v0 v1 v2:V) (t:Addr) (m:Int) (rs:List Bk.Room) (k:Int),σ=[some v0,some v1,some v2,some (.ref t),none,none]∧BookA K H (.ref t) m rs k∧Ease 99 m rs k
def C4 (K:W.Frag):St->Hp->Prop:=fun σ H=>∃(v0 v1 v2:V) (t:Addr) (m:Int) (rs:List Bk.Room) (k:Int) (due:Str),σ=[some v0,some v1,some v2,some (.ref t),some (.str due),none]∧BookA K H (.ref t) m rs k∧rs.length<70∧((due="ok"∧BOk m rs k)∨(due="book"∧¬BOk m rs k))
def C6 (K:W.Frag):St->Hp->Prop:=fun σ H=>∃(v0 v1 v2:V) (t u:Addr) (m:Int) (rs:List Bk.Room) (k:Int) (due:Str),σ=[some v0,some v1,some v2,some (.ref t),some (.str due),some (.ref u)]∧BookA K H (.ref t) m rs k∧BookA K H (.ref u) m rs k∧rs.length<70∧((due="ok"∧BOk m rs k)∨(due="book"∧¬BOk m rs k))
theorem qW {H H':Hp}{a:Addr}(s:au H H') (h:Scr K H a):Scr K H' a:=by
 obtain⟨ns,q⟩:=h
 exact⟨ns,s.seqL q⟩
theorem EO {rest:List Stmt}{B:St->Hp->Prop}(hr:RM 101 A s f cdv) (WM:Df P w K mg base CX0 2 "_law_mix" ["_law_script","_law_k"] (lZ K)) (WS:Df P w K mg base CX0 3 "_law_set" ["_law_script","_law_k","_law_many"] (um K)) (WB:Df P w K mg base (CX1 P w) 12 "book_of" ["many","orders"] (kT K))
  (h:HSs (XL P w K mg base f cdv A outer s H0 E) RT rest (C2 K) B):HSs (XL P w K mg base f cdv A outer s H0 E) RT (cU 0::cU 1::rest) (C0 K) B:=by
 obtain⟨u,hu,kk⟩:=h
 refine⟨_,ai (aI (i:=1) jb.nd rfl (Or.inl rfl) (aw bB ak (aw cy (aS WM (hr.mono (by decide)) rfl (bg (E:=fun _ _ _ _=>False)) (ac (pv 0) (ac ak ae))) ak)))
  (ai (aI (i:=2) jb.nd rfl (Or.inl rfl) (aS WB (hr.mono (by decide)) rfl lA (ac (pv 1) (ac (aS WS (hr.mono (by decide)) rfl (bg (E:=fun _ _ _ _=>False)) (ac (pv 0) (ac ak (ac (pv 1) ae)))) ae)))) hu),fun D σ H b qn qr=>?_⟩
 obtain⟨a,rfl,hs⟩:=b
 refine⟨_,rfl,a,0,rfl,hs,fun m0 h0 h1=>⟨_,_,rfl,rfl,by show(0:Int)<4;decide,_,_,rfl,rfl,?_⟩⟩
 obtain⟨many,hm⟩:∃many:Nat,1+m0 % 4=(many:Int):=⟨(1+m0 % 4).toNat,by omega⟩
 have m1:1≤many:=by omega
 have m4:many≤4:=by omega
 dsimp only
 rw[hm]
 refine⟨_,rfl,_,rfl,_,rfl,a,10,many,rfl,hs,m1,m4,fun sa os H1 s1 ol sub=>?_⟩
 have ok:=Bk.SetOk.of m1 m4 sub
 obtain⟨ys,hy,py⟩:=id ol
 have len:=ok.len
 refine⟨many,sa,ys,os,rfl,SqL.of hy,py,fun o ho=>xG m1 (by omega) (ok.mem o ho),m1,by omega,by omega,fun t lr H2 s2 bn=>?_⟩
 obtain⟨xs,hx,px⟩:=bn.rooms
 exact kk D _ _ ⟨a,t,_,many,os,rfl,qW (s1.trans s2) hs,m4,ok,lr,xs,SqT.of bn.at_,hx,px⟩ qn qr
theorem EQ (hr:RM 101 A s f cdv) (WT:Df P w K mg base (CX1 P w) 13 "_law_told" ["_law_way","_law_book_here"] (jH K)):HS (XL P w K mg base f cdv A outer s H0 E) RT (cU 2) (C2 K) (C2 K):=by
 refine⟨_,aK (aD gB (aS WT (hr.mono (by decide)) rfl lA (ac ak (ac (pv 2) ae))) bJ (aG _)) (am aL) ax,fun D σ H b qn qr=>?_⟩
 obtain⟨a,b,v1,many,os,rfl,hs,m4,S,bt⟩:=b
 have fw:=(drawn m4 S).1
 have ok:=(SetOk.whole S).bok
 refine⟨_,rfl,2,.ref b,_,_,_,rfl,bt.a,by omega,fun _ h=>by omega,fun _ _=>⟨by omega,fun H1 s1=>?_⟩,fun n=>absurd ok n⟩
 refine⟨rfl,_,rfl,?_⟩
 rw[decide_eq_true rfl]
 exact aM (qn _ _ ⟨a,b,v1,many,os,rfl,qW s1 hs,m4,S,bt.same s1⟩)
theorem ER (hr:RM 101 A s f cdv) (WM:Df P w K mg base CX0 2 "_law_mix" ["_law_script","_law_k"] (lZ K)) (WP:Df P w K mg base CX0 2 "_law_spoilt" PSp (kZ K)):HS (XL P w K mg base f cdv A outer s H0 E) RT (cU 3) (C2 K) (C3 K):=by
 refine⟨_,aI (i:=3) jb.nd rfl (Or.inl rfl) (aS WP (hr.mono (by decide)) rfl (bg (E:=fun _ _ _ _=>False)) (ac (pv 2) (ac (aS WM (hr.mono (by decide)) rfl (bg (E:=fun _ _ _ _=>False)) (ac (pv 0) (ac ak ae))) ae))),fun D σ H b qn qr=>?_⟩
 obtain⟨a,b,v1,many,os,rfl,hs,m4,S,bt⟩:=b
 obtain⟨fw,rms⟩:=drawn m4 S
 refine⟨_,rfl,_,rfl,a,1,rfl,hs,fun m h0 h1=>⟨b,m,many,_,_,rfl,bt,by omega,fun r hr=>⟨(rms r hr).1,by have:=(rms r hr).2;omega⟩,fun t many' rs' first' H' sp s1 bk=>?_⟩⟩
 exact qn _ _ ⟨_,_,_,t,many',rs',first',rfl,bk,uv m4 S sp⟩
theorem ES (hr:RM 101 A s f cdv) (WG:Df P w K mg base CX0 101 "_law_good" ["_law_book_here"] (qP K 99)):HS (XL P w K mg base f cdv A outer s H0 E) RT (cU 4) (C3 K) (C4 K):=by
 refine⟨_,aI (i:=4) jb.nd rfl (Or.inl rfl) (wq (dg (aS WG hr rfl (bg (E:=fun _ _ _ _=>False)) (ac (pv 3) ae))) bJ bJ),fun D σ H b qn qr=>?_⟩
 obtain⟨v0,v1,v2,t,m,rs,k,rfl,bk,es⟩:=b
 have few:=es.few
 have iff:=xK (n:=99) (by omega) es
 refine⟨_,rfl,.ref t,m,rs,k,rfl,bk,es,fun g H1 s1=>?_,fun g H1 s1=>?_⟩
 ·exact⟨_,rfl,aJ (qn _ _ ⟨v0,v1,v2,t,m,rs,k,_,rfl,bk.same s1,few,.inl ⟨rfl,iff.mp g⟩⟩)⟩
 ·exact⟨_,rfl,aM (qn _ _ ⟨v0,v1,v2,t,m,rs,k,_,rfl,bk.same s1,few,.inr ⟨rfl,fun o=>g (iff.mpr o)⟩⟩)⟩
theorem ET (hr:RM 101 A s f cdv) (WT:Df P w K mg base (CX1 P w) 13 "_law_told" ["_law_way","_law_book_here"] (jH K)):HS (XL P w K mg base f cdv A outer s H0 E) RT (cU 5) (C4 K) (C4 K):=by
 refine⟨_,aK (PW.pt (Ad (aD cb (pv 4) bJ (aG _)) (yF (aD gB (aS WT (hr.mono (by decide)) rfl lA (ac ak (ac (pv 3) ae))) bJ (aG _))))) (am aL) ax,fun D σ H b qn qr=>?_⟩
 obtain⟨v0,v1,v2,t,m,rs,k,due,rfl,bk,few,c⟩:=b
 refine⟨_,rfl,rfl,_,rfl,?_⟩
 rcases id c with⟨rfl,ok⟩|⟨rfl,no⟩
 ·rw[decide_eq_false (show V.str "ok"≠V.str "book" by decide)]
  exact aM (qn _ _ ⟨v0,v1,v2,t,m,rs,k,_,rfl,bk,few,c⟩)
 ·rw[decide_eq_true rfl]
  refine aJ ⟨_,rfl,2,.ref t,_,_,_,rfl,bk,few,fun o=>absurd o no,fun o=>absurd o no,fun _ H1 s1=>?_⟩
  refine⟨rfl,_,rfl,?_⟩
  rw[decide_eq_true rfl]
  exact aM (qn _ _ ⟨v0,v1,v2,t,m,rs,k,_,rfl,bk.same s1,few,c⟩)
theorem EU (hr:RM 101 A s f cdv) (T:TxB K mg CO):HS (XL P w K mg base f cdv A outer s H0 E) RT (cU 6) (C4 K) (C6 K):=by
 refine⟨_,aI (i:=5) jb.nd rfl (Or.inr rfl) (aY (ac (aU (show IxR _ (bZ K) from bv) (pv 3) ak (fun _ _=>rfl)) (ac (bz oU rfl T.t.list gu (ac (aU (show IxR _ (bZ K) from bv) (pv 3) ak (fun _ _=>rfl)) ae)) (ac (aU (show IxR _ (bZ K) from bv) (pv 3) ak (fun _ _=>rfl)) ae)))),fun D σ H b qn qr=>?_⟩
 obtain⟨v0,v1,v2,t,m,rs,k,due,rfl,bk,few,c⟩:=b
 obtain⟨b,l,xs,e,q,ql,pr⟩:=id bk.ex
 cases e
 refine⟨_,rfl,t,_,0,_,rfl,rfl,q,gP,_,rfl,t,_,1,_,rfl,rfl,q,iP,l,xs,rfl,.inl ql,fun l2 hl2=>?_⟩
 have s1:=af hl2 (.lst xs)
 refine⟨_,rfl,t,_,2,_,rfl,rfl,s1.seqT q,tS,by show 3≤sizeLine;decide,fun u hu=>?_⟩
 have s2:=af hu (.tup [.int m,.ref l2,.int k])
 have s12:=s1.trans s2
 exact qn _ _ ⟨v0,v1,v2,t,u,m,rs,k,due,rfl,bk.same s12,⟨⟨u,l2,xs,rfl,SqT.of ag,SqL.of (s2 _ _ ag),ay (fun _ _ z=>z.same s12) pr⟩⟩,few,c⟩
theorem EV (hr:RM 101 A s f cdv) (T:TxB K mg CO) (WT:Df P w K mg base (CX1 P w) 13 "_law_told" ["_law_way","_law_book_here"] (jH K)) {B:St->Hp->Prop}:HS (XL P w K mg base f cdv A outer s H0 E) RT (cU 7) (C6 K) B:=by
 have hu0:(A.deeper (PyProof.Rows.envOfC "law" (ap i6) s.heap.objs.size f cdv)).units+64<cLine:=hr.units
 have hu4:(A.deeper (PyProof.Rows.envOfC "law" (ap i6) s.heap.objs.size f cdv)).units+j6.dep<cLine:=by show _+4<cLine;omega
 refine⟨_,aH (gU (gf (lx hr.units0)
   (dM rfl (show CScope (ap i6) NW _ _ from by constructor <;> decide +kernel) (gA rfl T.t.range (ac ak ae)) (fun _ _ _ _ _ _=>fu)
    (fun cl C s₂ H₂ fp aa=>aS WT (hr.mono (by decide)) rfl lA (ac (pv 0) (ac (pv 6) ae))) jb.nd)
   (aw uQ (aO (ac (pv 4) ae)) ak) (aG _)) (lg (gf (jl j6 hu4) (pv 5) (pv 3) (aG _)))),fun D σ H b qn qr=>?_⟩
 obtain⟨v0,v1,v2,t,u,m,rs,k,due,rfl,bk,bu,few,c⟩:=b
 refine⟨2,rfl,by decide,by decide,kK (lo:=0) (n:=2) (fun i ys' H'=>au H H'∧ys'=List.replicate i (V.str due)) ⟨au.refl H,rfl⟩ ?_ (by rw[sizeLine_eq];omega) ?_ ?_⟩
 ·rintro i ys' H' hi ⟨_,rfl⟩
  simp
 ·rintro i ys' H' hi ⟨s1,rfl⟩
  refine goT (aJ ?_)
  have done:∀H2,au H' H2->au H H2∧List.replicate i (V.str due)++[V.str due]=List.replicate (i+1) (V.str due):=fun H2 s2=>⟨s1.trans s2,by rw[List.replicate_succ']⟩
  refine⟨_,rfl,_,rfl,0+(i:Int),.ref u,m,rs,k,rfl,bu.same s1,few,fun o _ H2 s2=>?_,fun _ h=>absurd (show 0+(i:Int)=0∨0+(i:Int)=1 by omega) h,fun n H2 s2=>?_⟩
  ·rcases c with⟨rfl,_⟩|⟨rfl,no⟩
   ·exact done H2 s2
   ·exact absurd o no
  ·rcases c with⟨rfl,o⟩|⟨rfl,no⟩
   ·exact absurd o n
   ·exact done H2 s2
 rintro ys' H' p ⟨s1,rfl⟩ hp0
 have a2:=af hp0 (.lst (List.replicate 2 (V.str due)))
 refine⟨_,rfl,by show 1≤sizeLine;decide,fun l0 hl0=>?_⟩
 have a3:=af hl0 (.lst [V.str due])
 refine⟨l0,2,_,rfl,rfl,ag,by decide,by decide,by show 2≤sizeLine;decide,fun l hl1=>?_⟩
 have a4:=af hl1 (.lst (List.replicate (2:Int).toNat [V.str due]).flatten)
 have tot:=s1.trans (a2.trans (a3.trans a4))
 have e2:eN (List.replicate 2 (V.str due)) (List.replicate (2:Int).toNat [V.str due]).flatten=true:=by
  rcases c with⟨rfl,_⟩|⟨rfl,_⟩ <;> decide +kernel
 refine⟨p,l,_,_,rfl,rfl,SqL.of ((a3.trans a4) _ _ ag),SqL.up,rfl,rfl,_,rfl,?_⟩
 rw[if_neg Bool.false_ne_true,e2]
 refine aJ ⟨_,rfl,_,rfl,(m,rs.map enc,k),(m,rs.map enc,k),jK (bu.same tot),jK (bk.same tot),?_⟩
 rw[if_neg Bool.false_ne_true,decide_eq_true rfl]
 exact qr _ _ rfl
def oH (K:W.Frag):Sp:=fun vs H Q _=>∃(a:Addr) (ns:List Int),vs=[.ref a]∧SqL K H a (ns.map V.int)∧∀H',Q (.bl true) H'
theorem Bd {fd:FuncData}(F:Fun K "law" "law" i6 f fd) (T:TxB K mg CO)
  (WM:Df P w K mg base CX0 2 "_law_mix" ["_law_script","_law_k"] (lZ K))
  (WS:Df P w K mg base CX0 3 "_law_set" ["_law_script","_law_k","_law_many"] (um K)) (WB:Df P w K mg base (CX1 P w) 12 "book_of" ["many","orders"] (kT K))
  (WT:Df P w K mg base (CX1 P w) 13 "_law_told" ["_law_way","_law_book_here"] (jH K)) (WP:Df P w K mg base CX0 2 "_law_spoilt" PSp (kZ K)) (WG:Df P w K mg base CX0 101 "_law_good" ["_law_book_here"] (qP K 99)):FnOk P w K mg base CX0 102 f fd ["_law_script"] (oH K):=by
 refine F.ok jb (fun vs H Q E h=>?_) (fun cdv A outer s H vs Q E hr h=>?_)
 ·obtain⟨a,ns,rfl,_⟩:=h
  rfl
 obtain⟨a,ns,rfl,hs,q⟩:=h
 have all:HSs (XL P w K mg base f cdv A outer s H E) RT [cU 0,cU 1,cU 2,cU 3,cU 4,cU 5,cU 6,cU 7] (C0 K) (fun _ _=>False):=
  EO hr WM WS WB<|(EQ hr WT).cons<|(ER hr WM WP).cons<|(ES hr WG).cons<|(ET hr WT).cons<|(EU hr T).cons<|(EV hr T WT).cons HSs.nil
 obtain⟨t,ht,k⟩:=all
 refine⟨t,ht,k _ _ _ ⟨a,rfl,ns,hs⟩ (fun _ _ z=>z.elim) fun v H' e=>?_⟩
 subst e
 exact q H'
end
end Ord
set_option maxHeartbeats 0
namespace Vw
open PySem PySem.W L2
noncomputable section
abbrev pw:Program:=PySem.Challenge.pw_ordernest_k03_no_books
def at_ (i:Nat):Stmt:=pw.main.body.getD i (.Pass ⟨0,0,0,0⟩)
def s0:Stmt:=at_ 0
def s1:Stmt:=at_ 1
def s2:Stmt:=at_ 2
def s3:Stmt:=at_ 3
def s4:Stmt:=at_ 4
def s5:Stmt:=at_ 5
def s6:Stmt:=at_ 6
def s7:Stmt:=at_ 7
def s8:Stmt:=at_ 8
def s9:Stmt:=at_ 9
def s10:Stmt:=at_ 10
def s11:Stmt:=at_ 11
def s12:Stmt:=at_ 12
def s13:Stmt:=at_ 13
def s14:Stmt:=at_ 14
def s15:Stmt:=at_ 15
def s16:Stmt:=at_ 16
def s17:Stmt:=at_ 17
def s18:Stmt:=at_ 18
def s19:Stmt:=at_ 19
def s20:Stmt:=at_ 20
def s21:Stmt:=at_ 21
def s22:Stmt:=at_ 22
def s23:Stmt:=at_ 23
def s24:Stmt:=at_ 24
def s25:Stmt:=at_ 25
def s26:Stmt:=at_ 26
def s27:Stmt:=at_ 27
def s28:Stmt:=at_ 28
def s29:Stmt:=at_ 29
def s30:Stmt:=at_ 30
def s31:Stmt:=at_ 31
def s32:Stmt:=at_ 32
def s33:Stmt:=at_ 33
def s34:Stmt:=at_ 34
def s35:Stmt:=at_ 35
def s36:Stmt:=at_ 36
def s37:Stmt:=at_ 37
def s38:Stmt:=at_ 38
def s39:Stmt:=at_ 39
def s40:Stmt:=at_ 40
def s41:Stmt:=at_ 41
def s42:Stmt:=at_ 42
def s43:Stmt:=at_ 43
def s44:Stmt:=at_ 44
def s45:Stmt:=at_ 45
def s46:Stmt:=at_ 46
def s47:Stmt:=at_ 47
def s48:Stmt:=at_ 48
def dk (P:Params) (x:Str) (t:Nat) (v:Value):DictEntry:=⟨PyData.keyHash P x,.str x t,v⟩
def kf (x q:Str) (s:Stmt) (kV doc pm cdv ct:Value):Obj:=⟨.type "function",none,.func (fnOf x q (dq s) (cC s) (ap s) .none kV doc pm none cdv ct),#[]⟩
def kg (c:Value) (x q:Str) (s:Stmt) (g:Nat) (dV kV doc pm cdv ct:Value):Obj:=⟨c,none,.func { name:=x,qualname:=q,params:=dq s,body:=.stmts (cC s),scope:=ap s,globals:=g,closure:=[],defaults:=dV,kwdefaults:=kV,doc:=doc,pyModule:=pm,code:=cdv,closureTuple:=ct },#[]⟩
def kj (c:Value) (d:Data):Obj:=⟨c,none,d,#[]⟩
def kt (l:List Value):Obj:=⟨.type "tuple",none,.seq ⟨l⟩ 0,#[]⟩
def oI (s:Stmt) (i:Nat):Stmt:=match s with
 | .ClassDef _ _ _ b _ _ _ _ _ _ _=>b.getD i (.Pass ⟨0,0,0,0⟩)
 | s=>s
def r (a:Nat):Value:=.ref a
def i (a:Int) (t:Nat):Value:=.int a t
def z (x:Str) (t:Nat):Value:=.str x t
def kc (x q:Str) (a b c l n f r1 r2 r3 r4 r5 t m u:Nat):Obj:=kj (.type "code") (.fields #[z x a,z q b,z "/claim/cut.py" c,i l 0,i n 0,i 0 0,i 0 0,i f 0,r r1,.bool true,i 181 0,r r2,.none,r r3,r r4,r r5,i t 0,i m 0,z "/claim/cut.py" u])
variable (P:Params)
def o11:Obj:=kt []
def o12:Obj:=kj .none (.fields #[])
def o13:Obj:=kj (.type "code") (.fields #[(z "<module>" 182),(z "<module>" 183),(z "/claim/cut.py" 184),(i 1 0),(i 0 0),(i 0 0),(i 0 0),(i 0 0),(r 11),(.bool false),(i 181 0),(r 12),.none,.none,.none,.none,(i 185 0),(i 1 0),(z "/claim/cut.py" 186)])
def o14:Obj:=⟨(.type "frame"),none,.plain,#[(some (r 13)),(some (r 3)),(some (r 3)),none,(some (z "__main__" 164)),none,(some (r 0))]⟩
def eo3:List DictEntry:=[dk P "__doc__" 166 .none,dk P "__package__" 167 .none,dk P "__loader__" 168 (.builtin "__main__.__loader__#opaque"),dk P "__spec__" 169 .none,dk P "__annotations__" 170 (r 6),dk P "__builtins__" 171 (r 4),dk P "__file__" 173 (z "/claim/cut.py" 172),dk P "__cached__" 174 .none,dk P "NestError" 206 (r 24)]
def o3:Obj:=kj (.type "dict") (.dict ⟨dk P "__name__" 165 (z "ordernest.errors" 187)::eo3 P⟩ 10)
def DQ:Obj:=kj .none (.fields #[(i 2 0),(i 0 0),(r 20)])
def o15:Obj:=kt [(.type "ValueError")]
def o16:Obj:=kj (.type "builtin_function_or_method") (.fields #[(.builtin "type.__prepare__"),(.type "type")])
def o17:Obj:=kj (.type "dict") (.dict #[dk P "__module__" 196 (z "ordernest.errors" 187),dk P "__qualname__" 198 (z "NestError" 197),dk P "__firstlineno__" 200 (i 2 199),dk P "__static_attributes__" 201 (r 22)] 4)
def o20:Obj:=kj (.type "code") (.fields #[(z "NestError" 191),(z "NestError" 192),(z "/claim/cut.py" 193),(i 2 0),(i 0 0),(i 0 0),(i 0 0),(i 0 0),(r 18),(.bool false),(i 181 0),(r 19),.none,.none,.none,.none,(i 194 0),(i 2 0),(z "/claim/cut.py" 195)])
def o21:Obj:=⟨(.type "frame"),none,.plain,#[(some (r 20)),(some (r 3)),(some (r 17)),none,(some (z "ordernest.errors" 187)),none,(some (r 0))]⟩
def o23:Obj:=kj (.type "dict") (.dict #[dk P "__module__" 196 (z "ordernest.errors" 187),dk P "__firstlineno__" 200 (i 2 199),dk P "__static_attributes__" 201 (r 22),dk P "__weakref__" 203 (r 25),dk P "__doc__" 204 .none] 3)
def o24:Obj:=⟨(.type "type"),none,.cls { name:="NestError",bases:=[(.type "ValueError")],mro:=[(r 24),(.type "ValueError"),(.type "Exception"),(.type "BaseException"),(.type "object")],ns:=23,qualname:="NestError",subclasses:=[] },#[(some (r 15)),none,(some (z "NestError" 189)),(some (z "NestError" 197)),(some (.builtin "ValueError.__new__")),(some (.bool true))]⟩
def o25:Obj:=kj (.type "getset_descriptor") (.fields #[(z "__weakref__" 202),(r 24),(.builtin "ExceptionGroup.__weakref__"),.none])
def o26:Obj:=kj (.type "super") (.fields #[(r 24),(r 24),(r 24)])
def o27:Obj:=kj (.type "builtin_function_or_method") (.fields #[(.builtin "object.__init_subclass__"),(r 24)])
def yo:List DictEntry:=eo3 P++[dk P "BadOrder" 222 (r 37)]
def EW:Obj:=kj (.type "dict") (.dict ⟨dk P "__name__" 165 (z "ordernest.errors" 187)::yo P⟩ 11)
def DR:Obj:=kj .none (.fields #[(i 2 0),(i 0 0),(r 20),(i 4 0),(i 0 0),(r 33)])
def DS:Obj:=⟨(.type "type"),none,.cls { name:="NestError",bases:=[(.type "ValueError")],mro:=[(r 24),(.type "ValueError"),(.type "Exception"),(.type "BaseException"),(.type "object")],ns:=23,qualname:="NestError",subclasses:=[(r 37)] },#[(some (r 15)),none,(some (z "NestError" 189)),(some (z "NestError" 197)),(some (.builtin "ValueError.__new__")),(some (.bool true))]⟩
def o28:Obj:=kt [(r 24)]
def o30:Obj:=kj (.type "dict") (.dict #[dk P "__module__" 214 (z "ordernest.errors" 187),dk P "__qualname__" 216 (z "BadOrder" 215),dk P "__firstlineno__" 218 (i 4 217),dk P "__static_attributes__" 219 (r 35)] 4)
def o31:Obj:=kt []
def o32:Obj:=kj .none (.fields #[])
def o33:Obj:=kj (.type "code") (.fields #[(z "BadOrder" 209),(z "BadOrder" 210),(z "/claim/cut.py" 211),(i 4 0),(i 0 0),(i 0 0),(i 0 0),(i 0 0),(r 31),(.bool false),(i 181 0),(r 32),.none,.none,.none,.none,(i 212 0),(i 4 0),(z "/claim/cut.py" 213)])
def o34:Obj:=⟨(.type "frame"),none,.plain,#[(some (r 33)),(some (r 3)),(some (r 30)),none,(some (z "ordernest.errors" 187)),none,(some (r 0))]⟩
def o35:Obj:=kt []
def o36:Obj:=kj (.type "dict") (.dict #[dk P "__module__" 214 (z "ordernest.errors" 187),dk P "__firstlineno__" 218 (i 4 217),dk P "__static_attributes__" 219 (r 35),dk P "__doc__" 220 .none] 2)
def o37:Obj:=⟨(.type "type"),none,.cls { name:="BadOrder",bases:=[(r 24)],mro:=[(r 37),(r 24),(.type "ValueError"),(.type "Exception"),(.type "BaseException"),(.type "object")],ns:=36,qualname:="BadOrder",subclasses:=[] },#[(some (r 28)),none,(some (z "BadOrder" 207)),(some (z "BadOrder" 215)),(some (.builtin "ValueError.__new__")),(some (.bool true))]⟩
def o38:Obj:=kj (.type "super") (.fields #[(r 37),(r 37),(r 37)])
def o39:Obj:=kj (.type "builtin_function_or_method") (.fields #[(.builtin "object.__init_subclass__"),(r 37)])
def yp:List DictEntry:=yo P++[dk P "BadBook" 238 (r 49)]
def EX:Obj:=kj (.type "dict") (.dict ⟨dk P "__name__" 165 (z "ordernest.errors" 187)::yp P⟩ 12)
def DT:Obj:=kj .none (.fields #[(i 2 0),(i 0 0),(r 20),(i 4 0),(i 0 0),(r 33),(i 6 0),(i 0 0),(r 45)])
def DU:Obj:=⟨(.type "type"),none,.cls { name:="NestError",bases:=[(.type "ValueError")],mro:=[(r 24),(.type "ValueError"),(.type "Exception"),(.type "BaseException"),(.type "object")],ns:=23,qualname:="NestError",subclasses:=[(r 37),(r 49)] },#[(some (r 15)),none,(some (z "NestError" 189)),(some (z "NestError" 197)),(some (.builtin "ValueError.__new__")),(some (.bool true))]⟩
def o42:Obj:=kj (.type "dict") (.dict #[dk P "__module__" 230 (z "ordernest.errors" 187),dk P "__qualname__" 232 (z "BadBook" 231),dk P "__firstlineno__" 234 (i 6 233),dk P "__static_attributes__" 235 (r 47)] 4)
def o45:Obj:=kj (.type "code") (.fields #[(z "BadBook" 225),(z "BadBook" 226),(z "/claim/cut.py" 227),(i 6 0),(i 0 0),(i 0 0),(i 0 0),(i 0 0),(r 43),(.bool false),(i 181 0),(r 44),.none,.none,.none,.none,(i 228 0),(i 6 0),(z "/claim/cut.py" 229)])
def o46:Obj:=⟨(.type "frame"),none,.plain,#[(some (r 45)),(some (r 3)),(some (r 42)),none,(some (z "ordernest.errors" 187)),none,(some (r 0))]⟩
def o48:Obj:=kj (.type "dict") (.dict #[dk P "__module__" 230 (z "ordernest.errors" 187),dk P "__firstlineno__" 234 (i 6 233),dk P "__static_attributes__" 235 (r 47),dk P "__doc__" 236 .none] 2)
def o49:Obj:=⟨(.type "type"),none,.cls { name:="BadBook",bases:=[(r 24)],mro:=[(r 49),(r 24),(.type "ValueError"),(.type "Exception"),(.type "BaseException"),(.type "object")],ns:=48,qualname:="BadBook",subclasses:=[] },#[(some (r 40)),none,(some (z "BadBook" 223)),(some (z "BadBook" 231)),(some (.builtin "ValueError.__new__")),(some (.bool true))]⟩
def o50:Obj:=kj (.type "super") (.fields #[(r 49),(r 49),(r 49)])
def o51:Obj:=kj (.type "builtin_function_or_method") (.fields #[(.builtin "object.__init_subclass__"),(r 49)])
def yq:List DictEntry:=yp P++[dk P "Unlike" 254 (r 61)]
def EY:Obj:=kj (.type "dict") (.dict ⟨dk P "__name__" 165 (z "ordernest.errors" 187)::yq P⟩ 13)
def DV:Obj:=kj .none (.fields #[(i 2 0),(i 0 0),(r 20),(i 4 0),(i 0 0),(r 33),(i 6 0),(i 0 0),(r 45),(i 8 0),(i 0 0),(r 57)])
def DW:Obj:=⟨(.type "type"),none,.cls { name:="NestError",bases:=[(.type "ValueError")],mro:=[(r 24),(.type "ValueError"),(.type "Exception"),(.type "BaseException"),(.type "object")],ns:=23,qualname:="NestError",subclasses:=[(r 37),(r 49),(r 61)] },#[(some (r 15)),none,(some (z "NestError" 189)),(some (z "NestError" 197)),(some (.builtin "ValueError.__new__")),(some (.bool true))]⟩
def o54:Obj:=kj (.type "dict") (.dict #[dk P "__module__" 246 (z "ordernest.errors" 187),dk P "__qualname__" 248 (z "Unlike" 247),dk P "__firstlineno__" 250 (i 8 249),dk P "__static_attributes__" 251 (r 59)] 4)
def o57:Obj:=kj (.type "code") (.fields #[(z "Unlike" 241),(z "Unlike" 242),(z "/claim/cut.py" 243),(i 8 0),(i 0 0),(i 0 0),(i 0 0),(i 0 0),(r 55),(.bool false),(i 181 0),(r 56),.none,.none,.none,.none,(i 244 0),(i 8 0),(z "/claim/cut.py" 245)])
def o58:Obj:=⟨(.type "frame"),none,.plain,#[(some (r 57)),(some (r 3)),(some (r 54)),none,(some (z "ordernest.errors" 187)),none,(some (r 0))]⟩
def o60:Obj:=kj (.type "dict") (.dict #[dk P "__module__" 246 (z "ordernest.errors" 187),dk P "__firstlineno__" 250 (i 8 249),dk P "__static_attributes__" 251 (r 59),dk P "__doc__" 252 .none] 2)
def o61:Obj:=⟨(.type "type"),none,.cls { name:="Unlike",bases:=[(r 24)],mro:=[(r 61),(r 24),(.type "ValueError"),(.type "Exception"),(.type "BaseException"),(.type "object")],ns:=60,qualname:="Unlike",subclasses:=[] },#[(some (r 52)),none,(some (z "Unlike" 239)),(some (z "Unlike" 247)),(some (.builtin "ValueError.__new__")),(some (.bool true))]⟩
def o62:Obj:=kj (.type "super") (.fields #[(r 61),(r 61),(r 61)])
def o63:Obj:=kj (.type "builtin_function_or_method") (.fields #[(.builtin "object.__init_subclass__"),(r 61)])
def yr:List DictEntry:=yq P++[dk P "BadRule" 270 (r 73)]
def EZ:Obj:=kj (.type "dict") (.dict ⟨dk P "__name__" 165 (z "ordernest.errors" 187)::yr P⟩ 14)
def DX:Obj:=kj .none (.fields #[(i 2 0),(i 0 0),(r 20),(i 4 0),(i 0 0),(r 33),(i 6 0),(i 0 0),(r 45),(i 8 0),(i 0 0),(r 57),(i 10 0),(i 0 0),(r 69)])
def DY:Obj:=⟨(.type "type"),none,.cls { name:="NestError",bases:=[(.type "ValueError")],mro:=[(r 24),(.type "ValueError"),(.type "Exception"),(.type "BaseException"),(.type "object")],ns:=23,qualname:="NestError",subclasses:=[(r 37),(r 49),(r 61),(r 73)] },#[(some (r 15)),none,(some (z "NestError" 189)),(some (z "NestError" 197)),(some (.builtin "ValueError.__new__")),(some (.bool true))]⟩
def o66:Obj:=kj (.type "dict") (.dict #[dk P "__module__" 262 (z "ordernest.errors" 187),dk P "__qualname__" 264 (z "BadRule" 263),dk P "__firstlineno__" 266 (i 10 265),dk P "__static_attributes__" 267 (r 71)] 4)
def o69:Obj:=kj (.type "code") (.fields #[(z "BadRule" 257),(z "BadRule" 258),(z "/claim/cut.py" 259),(i 10 0),(i 0 0),(i 0 0),(i 0 0),(i 0 0),(r 67),(.bool false),(i 181 0),(r 68),.none,.none,.none,.none,(i 260 0),(i 10 0),(z "/claim/cut.py" 261)])
def o70:Obj:=⟨(.type "frame"),none,.plain,#[(some (r 69)),(some (r 3)),(some (r 66)),none,(some (z "ordernest.errors" 187)),none,(some (r 0))]⟩
def o72:Obj:=kj (.type "dict") (.dict #[dk P "__module__" 262 (z "ordernest.errors" 187),dk P "__firstlineno__" 266 (i 10 265),dk P "__static_attributes__" 267 (r 71),dk P "__doc__" 268 .none] 2)
def o73:Obj:=⟨(.type "type"),none,.cls { name:="BadRule",bases:=[(r 24)],mro:=[(r 73),(r 24),(.type "ValueError"),(.type "Exception"),(.type "BaseException"),(.type "object")],ns:=72,qualname:="BadRule",subclasses:=[] },#[(some (r 64)),none,(some (z "BadRule" 255)),(some (z "BadRule" 263)),(some (.builtin "ValueError.__new__")),(some (.bool true))]⟩
def o74:Obj:=kj (.type "super") (.fields #[(r 73),(r 73),(r 73)])
def o75:Obj:=kj (.type "builtin_function_or_method") (.fields #[(.builtin "object.__init_subclass__"),(r 73)])
def yt:List DictEntry:=yr P++[dk P "BadNumber" 286 (r 85)]
def E1:Obj:=kj (.type "dict") (.dict ⟨dk P "__name__" 165 (z "ordernest.errors" 187)::yt P⟩ 15)
def DZ:Obj:=kj .none (.fields #[(i 2 0),(i 0 0),(r 20),(i 4 0),(i 0 0),(r 33),(i 6 0),(i 0 0),(r 45),(i 8 0),(i 0 0),(r 57),(i 10 0),(i 0 0),(r 69),(i 12 0),(i 0 0),(r 81)])
def D7:Obj:=⟨(.type "type"),none,.cls { name:="NestError",bases:=[(.type "ValueError")],mro:=[(r 24),(.type "ValueError"),(.type "Exception"),(.type "BaseException"),(.type "object")],ns:=23,qualname:="NestError",subclasses:=[(r 37),(r 49),(r 61),(r 73),(r 85)] },#[(some (r 15)),none,(some (z "NestError" 189)),(some (z "NestError" 197)),(some (.builtin "ValueError.__new__")),(some (.bool true))]⟩
def o78:Obj:=kj (.type "dict") (.dict #[dk P "__module__" 278 (z "ordernest.errors" 187),dk P "__qualname__" 280 (z "BadNumber" 279),dk P "__firstlineno__" 282 (i 12 281),dk P "__static_attributes__" 283 (r 83)] 4)
def o81:Obj:=kj (.type "code") (.fields #[(z "BadNumber" 273),(z "BadNumber" 274),(z "/claim/cut.py" 275),(i 12 0),(i 0 0),(i 0 0),(i 0 0),(i 0 0),(r 79),(.bool false),(i 181 0),(r 80),.none,.none,.none,.none,(i 276 0),(i 12 0),(z "/claim/cut.py" 277)])
def o82:Obj:=⟨(.type "frame"),none,.plain,#[(some (r 81)),(some (r 3)),(some (r 78)),none,(some (z "ordernest.errors" 187)),none,(some (r 0))]⟩
def o84:Obj:=kj (.type "dict") (.dict #[dk P "__module__" 278 (z "ordernest.errors" 187),dk P "__firstlineno__" 282 (i 12 281),dk P "__static_attributes__" 283 (r 83),dk P "__doc__" 284 .none] 2)
def o85:Obj:=⟨(.type "type"),none,.cls { name:="BadNumber",bases:=[(r 24)],mro:=[(r 85),(r 24),(.type "ValueError"),(.type "Exception"),(.type "BaseException"),(.type "object")],ns:=84,qualname:="BadNumber",subclasses:=[] },#[(some (r 76)),none,(some (z "BadNumber" 271)),(some (z "BadNumber" 279)),(some (.builtin "ValueError.__new__")),(some (.bool true))]⟩
def o86:Obj:=kj (.type "super") (.fields #[(r 85),(r 85),(r 85)])
def o87:Obj:=kj (.type "builtin_function_or_method") (.fields #[(.builtin "object.__init_subclass__"),(r 85)])
def yu:List DictEntry:=yt P++[dk P "BadWeights" 302 (r 97)]
def E2:Obj:=kj (.type "dict") (.dict ⟨dk P "__name__" 165 (z "ordernest.errors" 187)::yu P⟩ 16)
def D9:Obj:=kj .none (.fields #[(i 2 0),(i 0 0),(r 20),(i 4 0),(i 0 0),(r 33),(i 6 0),(i 0 0),(r 45),(i 8 0),(i 0 0),(r 57),(i 10 0),(i 0 0),(r 69),(i 12 0),(i 0 0),(r 81),(i 14 0),(i 0 0),(r 93)])
def Ea:Obj:=⟨(.type "type"),none,.cls { name:="NestError",bases:=[(.type "ValueError")],mro:=[(r 24),(.type "ValueError"),(.type "Exception"),(.type "BaseException"),(.type "object")],ns:=23,qualname:="NestError",subclasses:=[(r 37),(r 49),(r 61),(r 73),(r 85),(r 97)] },#[(some (r 15)),none,(some (z "NestError" 189)),(some (z "NestError" 197)),(some (.builtin "ValueError.__new__")),(some (.bool true))]⟩
def o90:Obj:=kj (.type "dict") (.dict #[dk P "__module__" 294 (z "ordernest.errors" 187),dk P "__qualname__" 296 (z "BadWeights" 295),dk P "__firstlineno__" 298 (i 14 297),dk P "__static_attributes__" 299 (r 95)] 4)
def o93:Obj:=kj (.type "code") (.fields #[(z "BadWeights" 289),(z "BadWeights" 290),(z "/claim/cut.py" 291),(i 14 0),(i 0 0),(i 0 0),(i 0 0),(i 0 0),(r 91),(.bool false),(i 181 0),(r 92),.none,.none,.none,.none,(i 292 0),(i 14 0),(z "/claim/cut.py" 293)])
def o94:Obj:=⟨(.type "frame"),none,.plain,#[(some (r 93)),(some (r 3)),(some (r 90)),none,(some (z "ordernest.errors" 187)),none,(some (r 0))]⟩
def o96:Obj:=kj (.type "dict") (.dict #[dk P "__module__" 294 (z "ordernest.errors" 187),dk P "__firstlineno__" 298 (i 14 297),dk P "__static_attributes__" 299 (r 95),dk P "__doc__" 300 .none] 2)
def o97:Obj:=⟨(.type "type"),none,.cls { name:="BadWeights",bases:=[(r 24)],mro:=[(r 97),(r 24),(.type "ValueError"),(.type "Exception"),(.type "BaseException"),(.type "object")],ns:=96,qualname:="BadWeights",subclasses:=[] },#[(some (r 88)),none,(some (z "BadWeights" 287)),(some (z "BadWeights" 295)),(some (.builtin "ValueError.__new__")),(some (.bool true))]⟩
def o98:Obj:=kj (.type "super") (.fields #[(r 97),(r 97),(r 97)])
def o99:Obj:=kj (.type "builtin_function_or_method") (.fields #[(.builtin "object.__init_subclass__"),(r 97)])
def yw:List DictEntry:=yu P++[dk P "BadText" 318 (r 109),dk P "MOST_THINGS" 322 (i 8 321),dk P "is_whole" 329 (r 118),dk P "is_count" 336 (r 125),dk P "look_count" 343 (r 132),dk P "look_order" 349 (r 137),dk P "NO_ROOM" 353 (i 0 352),dk P "END" 355 (i 1 354),dk P "LOWEST" 357 (i 2 356)]
def E3:Obj:=kj (.type "dict") (.dict ⟨dk P "__name__" 165 (z "ordernest.books" 350)::yw P⟩ 25)
def Eb:Obj:=kj .none (.fields #[(i 2 0),(i 0 0),(r 20),(i 4 0),(i 0 0),(r 33),(i 6 0),(i 0 0),(r 45),(i 8 0),(i 0 0),(r 57),(i 10 0),(i 0 0),(r 69),(i 12 0),(i 0 0),(r 81),(i 14 0),(i 0 0),(r 93),(i 16 0),(i 0 0),(r 105),(i 20 0),(i 0 0),(r 117),(i 22 0),(i 0 0),(r 124),(i 24 0),(i 0 0),(r 131),(i 27 0),(i 0 0),(r 136)])
def j9:Obj:=⟨(.type "type"),none,.cls { name:="NestError",bases:=[(.type "ValueError")],mro:=[(r 24),(.type "ValueError"),(.type "Exception"),(.type "BaseException"),(.type "object")],ns:=23,qualname:="NestError",subclasses:=[(r 37),(r 49),(r 61),(r 73),(r 85),(r 97),(r 109)] },#[(some (r 15)),none,(some (z "NestError" 189)),(some (z "NestError" 197)),(some (.builtin "ValueError.__new__")),(some (.bool true))]⟩
def E4:Obj:=kj (.type "dict") (.dict #[dk P "__module__" 310 (z "ordernest.errors" 187),dk P "__qualname__" 312 (z "BadText" 311),dk P "__firstlineno__" 314 (i 16 313),dk P "__static_attributes__" 315 (r 107)] 4)
def E5:Obj:=kj (.type "code") (.fields #[(z "BadText" 305),(z "BadText" 306),(z "/claim/cut.py" 307),(i 16 0),(i 0 0),(i 0 0),(i 0 0),(i 0 0),(r 103),(.bool false),(i 181 0),(r 104),.none,.none,.none,.none,(i 308 0),(i 16 0),(z "/claim/cut.py" 309)])
def E6:Obj:=⟨(.type "frame"),none,.plain,#[(some (r 105)),(some (r 3)),(some (r 102)),none,(some (z "ordernest.errors" 187)),none,(some (r 0))]⟩
def Be:Obj:=kj (.type "dict") (.dict #[dk P "__module__" 310 (z "ordernest.errors" 187),dk P "__firstlineno__" 314 (i 16 313),dk P "__static_attributes__" 315 (r 107),dk P "__doc__" 316 .none] 2)
def Bf:Obj:=⟨(.type "type"),none,.cls { name:="BadText",bases:=[(r 24)],mro:=[(r 109),(r 24),(.type "ValueError"),(.type "Exception"),(.type "BaseException"),(.type "object")],ns:=108,qualname:="BadText",subclasses:=[] },#[(some (r 100)),none,(some (z "BadText" 303)),(some (z "BadText" 311)),(some (.builtin "ValueError.__new__")),(some (.bool true))]⟩
def E7:Obj:=kj (.type "super") (.fields #[(r 109),(r 109),(r 109)])
def E8:Obj:=kj (.type "builtin_function_or_method") (.fields #[(.builtin "object.__init_subclass__"),(r 109)])
def E9:Obj:=kt [(z "value" 326)]
def Fa:Obj:=kg .none "is_whole" "is_whole" s11 0 .none .none .none .none .none .none
def Bg:Obj:=kc "is_whole" "is_whole" 323 324 325 20 1 3 112 113 114 115 116 327 20 328
def Bh:Obj:=kf "is_whole" "is_whole" s11 .none .none (z "ordernest.orders" 319) (r 117) .none
def Fb:Obj:=kt [(z "many" 333)]
def Fc:Obj:=kg .none "is_count" "is_count" s12 0 .none .none .none .none .none .none
def Bi:Obj:=kc "is_count" "is_count" 330 331 332 22 1 3 119 120 121 122 123 334 22 335
def Bj:Obj:=kf "is_count" "is_count" s12 .none .none (z "ordernest.orders" 319) (r 124) .none
def Fd:Obj:=kt [(z "many" 340)]
def Fe:Obj:=kg .none "look_count" "look_count" s13 0 .none .none .none .none .none .none
def Bl:Obj:=kc "look_count" "look_count" 337 338 339 24 1 3 126 127 128 129 130 341 24 342
def Bm:Obj:=kf "look_count" "look_count" s13 .none .none (z "ordernest.orders" 319) (r 131) .none
def Ff:Obj:=kg .none "look_order" "look_order" s14 0 .none .none .none .none .none .none
def Bn:Obj:=kj (.type "code") (.fields #[(z "look_order" 344),(z "look_order" 345),(z "/claim/cut.py" 346),(i 27 0),(i 2 0),(i 0 0),(i 0 0),(i 3 0),(r 133),(.bool true),(i 181 0),(r 134),.none,.none,.none,(r 135),(i 347 0),(i 27 0),(z "/claim/cut.py" 348)])
def Bo:Obj:=kf "look_order" "look_order" s14 .none .none (z "ordernest.orders" 319) (r 136) .none
def yx:List DictEntry:=yw P++[dk P "Shelf" 394 (r 161),dk P "look_book" 405 (r 172),dk P "look_parts" 412 (r 179),dk P "things_from" 422 (r 186),dk P "look_doors" 433 (r 193)]
def Fg:Obj:=kj (.type "dict") (.dict ⟨dk P "__name__" 165 (z "ordernest.books" 350)::yx P⟩ 30)
def Ec:Obj:=kj .none (.fields #[(i 2 0),(i 0 0),(r 20),(i 4 0),(i 0 0),(r 33),(i 6 0),(i 0 0),(r 45),(i 8 0),(i 0 0),(r 57),(i 10 0),(i 0 0),(r 69),(i 12 0),(i 0 0),(r 81),(i 14 0),(i 0 0),(r 93),(i 16 0),(i 0 0),(r 105),(i 20 0),(i 0 0),(r 117),(i 22 0),(i 0 0),(r 124),(i 24 0),(i 0 0),(r 131),(i 27 0),(i 0 0),(r 136),(i 39 0),(i 0 0),(r 143),(i 50 0),(i 0 0),(r 171),(i 58 0),(i 0 0),(r 178),(i 67 0),(i 0 0),(r 185),(i 73 0),(i 0 0),(r 192)])
def Fh:Obj:=kj (.type "dict") (.dict #[dk P "__module__" 365 (z "ordernest.books" 350),dk P "__qualname__" 367 (z "Shelf" 366),dk P "__firstlineno__" 369 (i 39 368),dk P "__init__" 376 (r 151),dk P "keep" 384 (r 158),dk P "__static_attributes__" 387 (r 159)] 6)
def Fj:Obj:=kj .none (.fields #[(i 41 0),(i 4 0),(r 150),(i 45 0),(i 4 0),(r 157)])
def Fl:Obj:=kj (.type "code") (.fields #[(z "Shelf" 360),(z "Shelf" 361),(z "/claim/cut.py" 362),(i 39 0),(i 0 0),(i 0 0),(i 0 0),(i 0 0),(r 141),(.bool false),(i 181 0),(r 142),.none,.none,.none,.none,(i 363 0),(i 39 0),(z "/claim/cut.py" 364)])
def Fm:Obj:=⟨(.type "frame"),none,.plain,#[(some (r 143)),(some (r 3)),(some (r 140)),none,(some (z "ordernest.books" 350)),none,(some (r 0))]⟩
def Fn:Obj:=kt [(z "self" 373)]
def Fo:Obj:=kg .none "__init__" "Shelf.__init__" (oI s19 0) 0 .none .none .none .none .none .none
def Bp:Obj:=kc "__init__" "Shelf.__init__" 370 371 372 41 1 3 145 146 147 148 149 374 41 375
def Bq:Obj:=kf "__init__" "Shelf.__init__" (oI s19 0) .none .none (z "ordernest.books" 350) (r 150) .none
def Fp:Obj:=kt [(z "self" 380),(z "room" 381)]
def Fq:Obj:=kg .none "keep" "Shelf.keep" (oI s19 1) 0 .none .none .none .none .none .none
def Br:Obj:=kc "keep" "Shelf.keep" 377 378 379 45 2 3 152 153 154 155 156 382 45 383
def Bs:Obj:=kf "keep" "Shelf.keep" (oI s19 1) .none .none (z "ordernest.books" 350) (r 157) .none
def Fr:Obj:=kt [(z "numbers" 385),(z "rooms" 386)]
def Bt:Obj:=kj (.type "dict") (.dict #[dk P "__module__" 365 (z "ordernest.books" 350),dk P "__firstlineno__" 369 (i 39 368),dk P "__init__" 376 (r 151),dk P "keep" 384 (r 158),dk P "__static_attributes__" 387 (r 159),dk P "__dict__" 389 (r 162),dk P "__weakref__" 391 (r 163),dk P "__doc__" 392 .none] 4)
def Bu:Obj:=⟨(.type "type"),none,.cls { name:="Shelf",bases:=[(.type "object")],mro:=[(r 161),(.type "object")],ns:=160,qualname:="Shelf",subclasses:=[] },#[none,none,(some (z "Shelf" 358)),(some (z "Shelf" 366)),(some (.builtin "object.__new__")),(some (.bool true))]⟩
def Fs:Obj:=kj (.type "getset_descriptor") (.fields #[(z "__dict__" 388),(r 161),(.builtin "function.__dict__"),(.builtin "function.__dict__#set")])
def Ft:Obj:=kj (.type "getset_descriptor") (.fields #[(z "__weakref__" 390),(r 161),(.builtin "ExceptionGroup.__weakref__"),.none])
def Fu:Obj:=kj (.type "super") (.fields #[(r 161),(r 161),(r 161)])
def Fv:Obj:=kj (.type "builtin_function_or_method") (.fields #[(.builtin "object.__init_subclass__"),(r 161)])
def Fw:Obj:=kt [(z "book" 398),(z "many" 399),(z "rooms" 400),(z "first" 401),(z "things" 402)]
def Fx:Obj:=kg .none "look_book" "look_book" s20 0 .none .none .none .none .none .none
def Bv:Obj:=kc "look_book" "look_book" 395 396 397 50 1 3 166 167 168 169 170 403 50 404
def Bw:Obj:=kf "look_book" "look_book" s20 .none .none (z "ordernest.books" 350) (r 171) .none
def Fy:Obj:=kt [(z "book" 409)]
def Fz:Obj:=kg .none "look_parts" "look_parts" s21 0 .none .none .none .none .none .none
def Bx:Obj:=kc "look_parts" "look_parts" 406 407 408 58 1 3 173 174 175 176 177 410 58 411
def Bz:Obj:=kf "look_parts" "look_parts" s21 .none .none (z "ordernest.books" 350) (r 178) .none
def FA:Obj:=kt [(z "many" 416),(z "rooms" 417),(z "things" 418),(z "room" 419)]
def FC:Obj:=kg .none "things_from" "things_from" s22 0 .none .none .none .none .none .none
def BA:Obj:=kc "things_from" "things_from" 413 414 415 67 2 3 180 181 182 183 184 420 67 421
def BC:Obj:=kf "things_from" "things_from" s22 .none .none (z "ordernest.books" 350) (r 185) .none
def FD:Obj:=kt [(z "many" 426),(z "room" 427),(z "number" 428),(z "last" 429),(z "door" 430)]
def FE:Obj:=kg .none "look_doors" "look_doors" s23 0 .none .none .none .none .none .none
def BD:Obj:=kc "look_doors" "look_doors" 423 424 425 73 3 3 187 188 189 190 191 431 73 432
def BE:Obj:=kf "look_doors" "look_doors" s23 .none .none (z "ordernest.books" 350) (r 192) .none
def yz:List DictEntry:=yx P++[dk P "is_door" 440 (r 200),dk P "things_of_room" 446 (r 205),dk P "things_through" 456 (r 212),dk P "look_first" 465 (r 219),dk P "look_turn" 474 (r 226),dk P "walk_rooms" 484 (r 233),dk P "book_of" 495 (r 240),dk P "shelve" 501 (r 245),dk P "orders_in" 510 (r 252),dk P "rows_of_room" 516 (r 257),dk P "has" 526 (r 264),dk P "behind_door" 535 (r 271),dk P "_law_cell" 545 (r 278)]
def FF:Obj:=kj (.type "dict") (.dict ⟨dk P "__name__" 165 (z "law_ordernest_k03_no_books" 536)::yz P⟩ 43)
def BF:Obj:=kj .none (.fields #[(i 2 0),(i 0 0),(r 20),(i 4 0),(i 0 0),(r 33),(i 6 0),(i 0 0),(r 45),(i 8 0),(i 0 0),(r 57),(i 10 0),(i 0 0),(r 69),(i 12 0),(i 0 0),(r 81),(i 14 0),(i 0 0),(r 93),(i 16 0),(i 0 0),(r 105),(i 20 0),(i 0 0),(r 117),(i 22 0),(i 0 0),(r 124),(i 24 0),(i 0 0),(r 131),(i 27 0),(i 0 0),(r 136),(i 39 0),(i 0 0),(r 143),(i 50 0),(i 0 0),(r 171),(i 58 0),(i 0 0),(r 178),(i 67 0),(i 0 0),(r 185),(i 73 0),(i 0 0),(r 192),(i 85 0),(i 0 0),(r 199),(i 87 0),(i 0 0),(r 204),(i 92 0),(i 0 0),(r 211),(i 98 0),(i 0 0),(r 218),(i 105 0),(i 0 0),(r 225),(i 112 0),(i 0 0),(r 232),(i 118 0),(i 0 0),(r 239),(i 127 0),(i 0 0),(r 244),(i 135 0),(i 0 0),(r 251),(i 141 0),(i 0 0),(r 256),(i 146 0),(i 0 0),(r 263),(i 155 0),(i 0 0),(r 270),(i 161 0),(i 0 0),(r 277)])
def FG:Obj:=kt [(z "door" 437)]
def FH:Obj:=kg .none "is_door" "is_door" s24 0 .none .none .none .none .none .none
def BG:Obj:=kc "is_door" "is_door" 434 435 436 85 1 3 194 195 196 197 198 438 85 439
def BH:Obj:=kf "is_door" "is_door" s24 .none .none (z "ordernest.books" 350) (r 199) .none
def FI:Obj:=kg .none "things_of_room" "things_of_room" s25 0 .none .none .none .none .none .none
def BI:Obj:=kj (.type "code") (.fields #[(z "things_of_room" 441),(z "things_of_room" 442),(z "/claim/cut.py" 443),(i 87 0),(i 2 0),(i 0 0),(i 0 0),(i 3 0),(r 201),(.bool true),(i 181 0),(r 202),.none,.none,.none,(r 203),(i 444 0),(i 87 0),(z "/claim/cut.py" 445)])
def BJ:Obj:=kf "things_of_room" "things_of_room" s25 .none .none (z "ordernest.books" 350) (r 204) .none
def FJ:Obj:=kt [(z "door" 450),(z "things" 451),(z "thing" 452),(z "later" 453)]
def FK:Obj:=kg .none "things_through" "things_through" s26 0 .none .none .none .none .none .none
def BK:Obj:=kc "things_through" "things_through" 447 448 449 92 2 3 206 207 208 209 210 454 92 455
def BL:Obj:=kf "things_through" "things_through" s26 .none .none (z "ordernest.books" 350) (r 211) .none
def FL:Obj:=kt [(z "many" 460),(z "things" 461),(z "first" 462)]
def FM:Obj:=kg .none "look_first" "look_first" s27 0 .none .none .none .none .none .none
def BM:Obj:=kc "look_first" "look_first" 457 458 459 98 3 3 213 214 215 216 217 463 98 464
def BN:Obj:=kf "look_first" "look_first" s27 .none .none (z "ordernest.books" 350) (r 218) .none
def FN:Obj:=kt [(z "rooms" 469),(z "first" 470),(z "walked" 471)]
def FO:Obj:=kg .none "look_turn" "look_turn" s28 0 .none .none .none .none .none .none
def BO:Obj:=kc "look_turn" "look_turn" 466 467 468 105 2 3 220 221 222 223 224 472 105 473
def BP:Obj:=kf "look_turn" "look_turn" s28 .none .none (z "ordernest.books" 350) (r 225) .none
def FP:Obj:=kt [(z "rooms" 478),(z "number" 479),(z "walked" 480),(z "door" 481)]
def FQ:Obj:=kg .none "walk_rooms" "walk_rooms" s29 0 .none .none .none .none .none .none
def BQ:Obj:=kc "walk_rooms" "walk_rooms" 475 476 477 112 3 3 227 228 229 230 231 482 112 483
def BR:Obj:=kf "walk_rooms" "walk_rooms" s29 .none .none (z "ordernest.books" 350) (r 232) .none
def FR:Obj:=kt [(z "many" 488),(z "orders" 489),(z "order" 490),(z "shelf" 491),(z "first" 492)]
def FS:Obj:=kg .none "book_of" "book_of" s30 0 .none .none .none .none .none .none
def BS:Obj:=kc "book_of" "book_of" 485 486 487 118 2 3 234 235 236 237 238 493 118 494
def BU:Obj:=kf "book_of" "book_of" s30 .none .none (z "ordernest.books" 350) (r 239) .none
def FT:Obj:=kg .none "shelve" "shelve" s31 0 .none .none .none .none .none .none
def BV:Obj:=kj (.type "code") (.fields #[(z "shelve" 496),(z "shelve" 497),(z "/claim/cut.py" 498),(i 127 0),(i 3 0),(i 0 0),(i 0 0),(i 3 0),(r 241),(.bool true),(i 181 0),(r 242),.none,.none,.none,(r 243),(i 499 0),(i 127 0),(z "/claim/cut.py" 500)])
def BW:Obj:=kf "shelve" "shelve" s31 .none .none (z "ordernest.books" 350) (r 244) .none
def FU:Obj:=kt [(z "book" 505),(z "rows" 506),(z "room" 507)]
def FV:Obj:=kg .none "orders_in" "orders_in" s32 0 .none .none .none .none .none .none
def BX:Obj:=kc "orders_in" "orders_in" 502 503 504 135 1 3 246 247 248 249 250 508 135 509
def BZ:Obj:=kf "orders_in" "orders_in" s32 .none .none (z "ordernest.books" 350) (r 251) .none
def FW:Obj:=kg .none "rows_of_room" "rows_of_room" s33 0 .none .none .none .none .none .none
def B0:Obj:=kj (.type "code") (.fields #[(z "rows_of_room" 511),(z "rows_of_room" 512),(z "/claim/cut.py" 513),(i 141 0),(i 2 0),(i 0 0),(i 0 0),(i 3 0),(r 253),(.bool true),(i 181 0),(r 254),.none,.none,.none,(r 255),(i 514 0),(i 141 0),(z "/claim/cut.py" 515)])
def B1:Obj:=kf "rows_of_room" "rows_of_room" s33 .none .none (z "ordernest.books" 350) (r 256) .none
def FX:Obj:=kt [(z "book" 520),(z "order" 521),(z "number" 522),(z "thing" 523)]
def FY:Obj:=kg .none "has" "has" s34 0 .none .none .none .none .none .none
def B4:Obj:=kc "has" "has" 517 518 519 146 2 3 258 259 260 261 262 524 146 525
def B5:Obj:=kf "has" "has" s34 .none .none (z "ordernest.books" 350) (r 263) .none
def FZ:Obj:=kt [(z "room" 530),(z "thing" 531),(z "door" 532)]
def F1:Obj:=kg .none "behind_door" "behind_door" s35 0 .none .none .none .none .none .none
def B6:Obj:=kc "behind_door" "behind_door" 527 528 529 155 2 3 265 266 267 268 269 533 155 534
def B7:Obj:=kf "behind_door" "behind_door" s35 .none .none (z "ordernest.books" 350) (r 270) .none
def F2:Obj:=kt [(z "_law_script" 541),(z "_law_k" 542)]
def F4:Obj:=kg .none "_law_cell" "_law_cell" s37 0 .none .none .none .none .none .none
def B8:Obj:=kc "_law_cell" "_law_cell" 538 539 540 161 2 3 272 273 274 275 276 543 161 544
def B9:Obj:=kf "_law_cell" "_law_cell" s37 .none .none (z "law_ordernest_k03_no_books" 536) (r 277) .none
def Ca:List DictEntry:=yz P++[dk P "_law_mix" 554 (r 285),dk P "_law_all" 560 (r 290),dk P "_law_set" 566 (r 295),dk P "_law_lay" 572 (r 300),dk P "_law_book" 582 (r 307),dk P "_law_refusal" 590 (r 314),dk P "_law_rests" 596 (r 319),dk P "_law_good" 602 (r 324),dk P "_law_spoilt" 621 (r 331),dk P "_law_told" 631 (r 338),dk P "law" 637 (r 343)]
def uw:Obj:=kj (.type "dict") (.dict ⟨dk P "__name__" 165 (z "law_ordernest_k03_no_books" 536)::Ca P⟩ 54)
def wm:Obj:=kj .none (.fields #[(i 2 0),(i 0 0),(r 20),(i 4 0),(i 0 0),(r 33),(i 6 0),(i 0 0),(r 45),(i 8 0),(i 0 0),(r 57),(i 10 0),(i 0 0),(r 69),(i 12 0),(i 0 0),(r 81),(i 14 0),(i 0 0),(r 93),(i 16 0),(i 0 0),(r 105),(i 20 0),(i 0 0),(r 117),(i 22 0),(i 0 0),(r 124),(i 24 0),(i 0 0),(r 131),(i 27 0),(i 0 0),(r 136),(i 39 0),(i 0 0),(r 143),(i 50 0),(i 0 0),(r 171),(i 58 0),(i 0 0),(r 178),(i 67 0),(i 0 0),(r 185),(i 73 0),(i 0 0),(r 192),(i 85 0),(i 0 0),(r 199),(i 87 0),(i 0 0),(r 204),(i 92 0),(i 0 0),(r 211),(i 98 0),(i 0 0),(r 218),(i 105 0),(i 0 0),(r 225),(i 112 0),(i 0 0),(r 232),(i 118 0),(i 0 0),(r 239),(i 127 0),(i 0 0),(r 244),(i 135 0),(i 0 0),(r 251),(i 141 0),(i 0 0),(r 256),(i 146 0),(i 0 0),(r 263),(i 155 0),(i 0 0),(r 270),(i 161 0),(i 0 0),(r 277),(i 165 0),(i 0 0),(r 284),(i 169 0),(i 0 0),(r 289),(i 177 0),(i 0 0),(r 294),(i 187 0),(i 0 0),(r 299),(i 198 0),(i 0 0),(r 306),(i 204 0),(i 0 0),(r 313),(i 213 0),(i 0 0),(r 318),(i 225 0),(i 0 0),(r 323),(i 235 0),(i 0 0),(r 330),(i 255 0),(i 0 0),(r 337),(i 267 0),(i 0 0),(r 342)])
def F5:Obj:=kt [(z "_law_script" 549),(z "_law_k" 550),(z "_law_number" 551)]
def F6:Obj:=kg .none "_law_mix" "_law_mix" s38 0 .none .none .none .none .none .none
def Cb:Obj:=kc "_law_mix" "_law_mix" 546 547 548 165 2 3 279 280 281 282 283 552 165 553
def Cc:Obj:=kf "_law_mix" "_law_mix" s38 .none .none (z "law_ordernest_k03_no_books" 536) (r 284) .none
def F7:Obj:=kg .none "_law_all" "_law_all" s39 0 .none .none .none .none .none .none
def Cd:Obj:=kj (.type "code") (.fields #[(z "_law_all" 555),(z "_law_all" 556),(z "/claim/cut.py" 557),(i 169 0),(i 1 0),(i 0 0),(i 0 0),(i 3 0),(r 286),(.bool true),(i 181 0),(r 287),.none,.none,.none,(r 288),(i 558 0),(i 169 0),(z "/claim/cut.py" 559)])
def Ce:Obj:=kf "_law_all" "_law_all" s39 .none .none (z "law_ordernest_k03_no_books" 536) (r 289) .none
def F8:Obj:=kg .none "_law_set" "_law_set" s40 0 .none .none .none .none .none .none
def Cf:Obj:=kj (.type "code") (.fields #[(z "_law_set" 561),(z "_law_set" 562),(z "/claim/cut.py" 563),(i 177 0),(i 3 0),(i 0 0),(i 0 0),(i 3 0),(r 291),(.bool true),(i 181 0),(r 292),.none,.none,.none,(r 293),(i 564 0),(i 177 0),(z "/claim/cut.py" 565)])
def Cg:Obj:=kf "_law_set" "_law_set" s40 .none .none (z "law_ordernest_k03_no_books" 536) (r 294) .none
def F9:Obj:=kg .none "_law_lay" "_law_lay" s41 0 .none .none .none .none .none .none
def Ch:Obj:=kj (.type "code") (.fields #[(z "_law_lay" 567),(z "_law_lay" 568),(z "/claim/cut.py" 569),(i 187 0),(i 4 0),(i 0 0),(i 0 0),(i 3 0),(r 296),(.bool true),(i 181 0),(r 297),.none,.none,.none,(r 298),(i 570 0),(i 187 0),(z "/claim/cut.py" 571)])
def Ci:Obj:=kf "_law_lay" "_law_lay" s41 .none .none (z "law_ordernest_k03_no_books" 536) (r 299) .none
def Ga:Obj:=kt []
def Gb:Obj:=kj .none (.fields #[])
def Gc:Obj:=kt [(z "_law_many" 576),(z "_law_orders" 577),(z "_law_rooms" 578),(z "_law_first" 579)]
def Gd:Obj:=kt []
def Ge:Obj:=kg .none "_law_book" "_law_book" s42 0 .none .none .none .none .none .none
def Cj:Obj:=kc "_law_book" "_law_book" 573 574 575 198 2 3 301 302 303 304 305 580 198 581
def Ck:Obj:=kf "_law_book" "_law_book" s42 .none .none (z "law_ordernest_k03_no_books" 536) (r 306) .none
def Gf:Obj:=kt []
def Gg:Obj:=kj .none (.fields #[])
def Gh:Obj:=kt [(z "_law_kept" 586),(z "_law_kinds" 587)]
def Gi:Obj:=kt []
def Gj:Obj:=kg .none "_law_refusal" "_law_refusal" s43 0 .none .none .none .none .none .none
def Cl:Obj:=kc "_law_refusal" "_law_refusal" 583 584 585 204 1 3 308 309 310 311 312 588 204 589
def Cm:Obj:=kf "_law_refusal" "_law_refusal" s43 .none .none (z "law_ordernest_k03_no_books" 536) (r 313) .none
def Gk:Obj:=kt []
def Gm:Obj:=kj .none (.fields #[])
def Gn:Obj:=kg .none "_law_rests" "_law_rests" s44 0 .none .none .none .none .none .none
def Cn:Obj:=kj (.type "code") (.fields #[(z "_law_rests" 591),(z "_law_rests" 592),(z "/claim/cut.py" 593),(i 213 0),(i 3 0),(i 0 0),(i 0 0),(i 3 0),(r 315),(.bool true),(i 181 0),(r 316),.none,.none,.none,(r 317),(i 594 0),(i 213 0),(z "/claim/cut.py" 595)])
def Co:Obj:=kf "_law_rests" "_law_rests" s44 .none .none (z "law_ordernest_k03_no_books" 536) (r 318) .none
def Go:Obj:=kt []
def Gp:Obj:=kj .none (.fields #[])
def Gq:Obj:=kg .none "_law_good" "_law_good" s45 0 .none .none .none .none .none .none
def Cp:Obj:=kj (.type "code") (.fields #[(z "_law_good" 597),(z "_law_good" 598),(z "/claim/cut.py" 599),(i 225 0),(i 1 0),(i 0 0),(i 0 0),(i 3 0),(r 320),(.bool true),(i 181 0),(r 321),.none,.none,.none,(r 322),(i 600 0),(i 225 0),(z "/claim/cut.py" 601)])
def Cq:Obj:=kf "_law_good" "_law_good" s45 .none .none (z "law_ordernest_k03_no_books" 536) (r 323) .none
def Gr:Obj:=kt []
def Gt:Obj:=kj .none (.fields #[])
def Gu:Obj:=kt [(z "_law_book_here" 606),(z "_law_number" 607),(z "_law_many" 608),(z "_law_some" 609),(z "_law_first" 610),(z "_law_way" 611),(z "_law_bad" 612),(z "_law_at" 613),(z "_law_doors" 614),(z "_law_k" 615),(z "_law_thing" 616),(z "_law_other" 617),(z "_law_change" 618)]
def Gv:Obj:=kt []
def Gw:Obj:=kg .none "_law_spoilt" "_law_spoilt" s46 0 .none .none .none .none .none .none
def Cr:Obj:=kc "_law_spoilt" "_law_spoilt" 603 604 605 235 2 3 325 326 327 328 329 619 235 620
def Cs:Obj:=kf "_law_spoilt" "_law_spoilt" s46 .none .none (z "law_ordernest_k03_no_books" 536) (r 330) .none
def Gx:Obj:=kt []
def Gy:Obj:=kj .none (.fields #[])
def Gz:Obj:=kt [(z "_law_way" 625),(z "_law_book_here" 626),(z "_law_kept" 627),(z "e" 628)]
def GA:Obj:=kt []
def GB:Obj:=kg .none "_law_told" "_law_told" s47 0 .none .none .none .none .none .none
def Ct:Obj:=kc "_law_told" "_law_told" 622 623 624 255 2 3 332 333 334 335 336 629 255 630
def Cu:Obj:=kf "_law_told" "_law_told" s47 .none .none (z "law_ordernest_k03_no_books" 536) (r 337) .none
def GC:Obj:=kt []
def GD:Obj:=kj .none (.fields #[])
def GE:Obj:=kg .none "law" "law" s48 0 .none .none .none .none .none .none
def Cv:Obj:=kj (.type "code") (.fields #[(z "law" 632),(z "law" 633),(z "/claim/cut.py" 634),(i 267 0),(i 1 0),(i 0 0),(i 0 0),(i 3 0),(r 339),(.bool true),(i 181 0),(r 340),.none,.none,.none,(r 341),(i 635 0),(i 267 0),(z "/claim/cut.py" 636)])
def Cw:Obj:=kf "law" "law" s48 .none .none (z "law_ordernest_k03_no_books" 536) (r 342) .none
def ev:List Obj->List Obj
 | x::_::r=>x::ev r
 | l=>l
def od:List Obj->List Obj
 | _::y::r=>y::od r
 | _=>[]
def tr:Nat->List Obj->BT
 | n+1,x::r=>.node x (tr n (ev r)) (tr n (od r))
 | _,_=>.nil
def ux (x3 x12 x24:Obj):List Obj:=[boot_o_0 P,boot_o_1 P,boot_o_2 P,x3,boot_o_4 P,boot_o_5 P,boot_o_6 P,boot_o_7 P,boot_o_8 P,boot_o_9 P,boot_o_10 P,o11,x12,o13,o14]
abbrev zV:=ux
def Cy (x3 x12 x24:Obj):List Obj:=ux P x3 x12 x24++[o15,o16,o17 P,o11,o12,o20,o21,o11,o23 P,x24,o25,o26,o27]
def Cz (x3 x12 x24:Obj):List Obj:=Cy P x3 x12 x24++[o28,o16,o30 P,o31,o32,o33,o34,o35,o36 P,o37,o38,o39]
def CA (x3 x12 x24:Obj):List Obj:=Cz P x3 x12 x24++[o28,o16,o42 P,o35,o32,o45,o46,o35,o48 P,o49,o50,o51]
def CC (x3 x12 x24:Obj):List Obj:=CA P x3 x12 x24++[o28,o16,o54 P,o35,o32,o57,o58,o35,o60 P,o61,o62,o63]
def CD (x3 x12 x24:Obj):List Obj:=CC P x3 x12 x24++[o28,o16,o66 P,o35,o32,o69,o70,o35,o72 P,o73,o74,o75]
def CF (x3 x12 x24:Obj):List Obj:=CD P x3 x12 x24++[o28,o16,o78 P,o35,o32,o81,o82,o35,o84 P,o85,o86,o87]
def CG (x3 x12 x24:Obj):List Obj:=CF P x3 x12 x24++[o28,o16,o90 P,o35,o32,o93,o94,o35,o96 P,o97,o98,o99]
def CH (x3 x12 x24:Obj):List Obj:=CG P x3 x12 x24++[o28,o16,E4 P,o35,o32,E5,E6,o35,Be P,Bf,E7,E8,o35,o32,E9,o35,Fa,Bg,Bh,o35,o32,Fb,o35,Fc,Bi,Bj,o35,o32,Fd,o35,Fe,Bl,Bm,o35,o32,Ff,Bn,Bo]
def CI (x3 x12 x24:Obj):List Obj:=CH P x3 x12 x24++[o35,o16,Fh P,o35,Fj,Fl,Fm,o35,o32,Fn,o35,Fo,Bp,Bq,o35,o32,Fp,o35,Fq,Br,Bs,Fr,Bt P,Bu,Fs,Ft,Fu,Fv,o35,o32,Fw,o35,Fx,Bv,Bw,o35,o32,Fy,o35,Fz,Bx,Bz,o35,o32,FA,o35,FC,BA,BC,o35,o32,FD,o35,FE,BD,BE]
def CJ (x3 x12 x24:Obj):List Obj:=CI P x3 x12 x24++[o35,o32,FG,o35,FH,BG,BH,o35,o32,FI,BI,BJ,o35,o32,FJ,o35,FK,BK,BL,o35,o32,FL,o35,FM,BM,BN,o35,o32,FN,o35,FO,BO,BP,o35,o32,FP,o35,FQ,BQ,BR,o35,o32,FR,o35,FS,BS,BU,o35,o32,FT,BV,BW,o35,o32,FU,o35,FV,BX,BZ,o35,o32,FW,B0,B1,o35,o32,FX,o35,FY,B4,B5,o35,o32,FZ,o35,F1,B6,B7,o35,o32,F2,o35,F4,B8,B9]
def yA (x3 x12 x24:Obj):List Obj:=CJ P x3 x12 x24++[o35,o32,F5,o35,F6,Cb,Cc,o35,o32,F7,Cd,Ce,o35,o32,F8,Cf,Cg,o35,o32,F9,Ch,Ci,Ga,Gb,Gc,Gd,Ge,Cj,Ck,Gf,Gg,Gh,Gi,Gj,Cl,Cm,Gk,Gm,Gn,Cn,Co,Go,Gp,Gq,Cp,Cq,Gr,Gt,Gu,Gv,Gw,Cr,Cs,Gx,Gy,Gz,GA,GB,Ct,Cu,GC,GD,GE,Cv,Cw]
def sI:BT:=tr 10 (zV P (boot_o_3 P) (o12) (o14))
def CK:BT:=tr 10 (Cy P (o3 P) (DQ) (o24))
def CL:BT:=tr 10 (Cz P (EW P) (DR) (DS))
def CM:BT:=tr 10 (CA P (EX P) (DT) (DU))
def CP:BT:=tr 10 (CC P (EY P) (DV) (DW))
def CQ:BT:=tr 10 (CD P (EZ P) (DX) (DY))
def CS:BT:=tr 10 (CF P (E1 P) (DZ) (D7))
def CT:BT:=tr 10 (CG P (E2 P) (D9) (Ea))
def CU:BT:=tr 10 (CH P (E3 P) (Eb) (j9))
def CV:BT:=tr 10 (CI P (Fg P) (Ec) (j9))
def CW:BT:=tr 10 (CJ P (FF P) (BF) (j9))
def yB:BT:=tr 10 (yA P (uw P) (wm) (j9))
def hA:Heap:=⟨⟨ux P (boot_o_3 P) (o12) (o14)⟩,{}⟩
def hF:Heap:=⟨⟨yA P (uw P) (wm) (j9)⟩,{}⟩
def K:Frag:=(nat_lit 2,boot_o_2 P)::(nat_lit 3,uw P)::(nat_lit 23,o23 P)::(nat_lit 24,j9)::(nat_lit 36,o36 P)::(nat_lit 37,o37)::(nat_lit 48,o48 P)::(nat_lit 49,o49)::(nat_lit 60,o60 P)::(nat_lit 61,o61)::(nat_lit 72,o72 P)::(nat_lit 73,o73)::(nat_lit 84,o84 P)::(nat_lit 85,o85)::(nat_lit 96,o96 P)::(nat_lit 97,o97)::(nat_lit 108,Be P)::(nat_lit 109,Bf)::(nat_lit 117,Bg)::(nat_lit 118,Bh)::(nat_lit 124,Bi)::(nat_lit 125,Bj)::(nat_lit 131,Bl)::(nat_lit 132,Bm)::(nat_lit 136,Bn)::(nat_lit 137,Bo)::(nat_lit 150,Bp)::(nat_lit 151,Bq)::(nat_lit 157,Br)::(nat_lit 158,Bs)::(nat_lit 160,Bt P)::(nat_lit 161,Bu)::(nat_lit 171,Bv)::(nat_lit 172,Bw)::(nat_lit 178,Bx)::(nat_lit 179,Bz)::(nat_lit 185,BA)::(nat_lit 186,BC)::(nat_lit 192,BD)::(nat_lit 193,BE)::(nat_lit 199,BG)::(nat_lit 200,BH)::(nat_lit 204,BI)::(nat_lit 205,BJ)::(nat_lit 211,BK)::(nat_lit 212,BL)::(nat_lit 218,BM)::(nat_lit 219,BN)::(nat_lit 225,BO)::(nat_lit 226,BP)::(nat_lit 232,BQ)::(nat_lit 233,BR)::(nat_lit 239,BS)::(nat_lit 240,BU)::(nat_lit 244,BV)::(nat_lit 245,BW)::(nat_lit 251,BX)::(nat_lit 252,BZ)::(nat_lit 256,B0)::(nat_lit 257,B1)::(nat_lit 263,B4)::(nat_lit 264,B5)::(nat_lit 270,B6)::(nat_lit 271,B7)::(nat_lit 277,B8)::(nat_lit 278,B9)::(nat_lit 284,Cb)::(nat_lit 285,Cc)::(nat_lit 289,Cd)::(nat_lit 290,Ce)::(nat_lit 294,Cf)::(nat_lit 295,Cg)::(nat_lit 299,Ch)::(nat_lit 300,Ci)::(nat_lit 306,Cj)::(nat_lit 307,Ck)::(nat_lit 313,Cl)::(nat_lit 314,Cm)::(nat_lit 318,Cn)::(nat_lit 319,Co)::(nat_lit 323,Cp)::(nat_lit 324,Cq)::(nat_lit 330,Cr)::(nat_lit 331,Cs)::(nat_lit 337,Ct)::(nat_lit 338,Cu)::(nat_lit 342,Cv)::(nat_lit 343,Cw)::[]
def as_:List Addr:=[2,3,23,24,36,37,48,49,60,61,72,73,84,85,96,97,108,109,117,118,124,125,131,132,136,137,150,151,157,158,160,161,171,172,178,179,185,186,192,193,199,200,204,205,211,212,218,219,225,226,232,233,239,240,244,245,251,252,256,257,263,264,270,271,277,278,284,285,289,290,294,295,299,300,306,307,313,314,318,319,323,324,330,331,337,338,342,343]
def B:List Frame:=[topFrame ⟨0,0,0,0⟩]
def env:Env:={ scope:=pw.main.scope,locals:=mainNs,globals:=mainNs,cells:=[],code:=(.ref 13),frame:=some 14 }
def cE:Code:=.body (behindTheImports pw) env
def sT (t:Params->BT) (n k:Nat) (w:World) (os:OsState):SharedT:=⟨t w.params,n,{},⟨[]⟩,{},k,os⟩
def sH (h:Params->Heap) (k:Nat) (w:World) (os:OsState):Shared:=⟨h w.params,⟨[]⟩,{},k,os⟩
def sO (w:World) (os:OsState):Shared:=⟨boot_heap w.params,⟨[]⟩,boot_drawn,boot_toks,os⟩
theorem GF (w:World) (os:OsState):topGo treeTable pw w 11 (some (.ref 6)) 12 (sO w os) (topStub pw)=some (sH hA 187 w os,⟨denote treeTable cE,cE,⟨0,0,0,0⟩,B⟩):=by
 rewrite [W.Fast.te15667345088766844465,W.Fast.te14364793385576792824,W.Fast.te11892475500146522536];kernel_rfl
theorem CY (w:World) (os:OsState):segRun treeTable pw w 11 (some (.ref 6)) 1 1 (sH hA 187 w os) (blockOf (behindTheImports pw) env cE ⟨0,0,0,0⟩ B)=some (.next,(sT sI 15 187 w os).abs,cE,⟨0,0,0,0⟩):=by
 rewrite [W.Fast.te14374325043358763698,W.Fast.te14364793385576792824];kernel_rfl
def CZ:List Stmt:=[s0,s1]
theorem GG (w:World) (os:OsState):segRunT treeTable pw w 11 (some (.ref 6)) 1 196 (sT sI 15 187 w os) (piecesOf CZ env cE ⟨0,0,0,0⟩ B)=some (.next,sT CK 28 207 w os,cE,⟨2,0,3,8⟩):=by
 rewrite [W.Fast.te10110043849684766642,W.Fast.te14364793385576792824];kernel_rfl
def C1:List Stmt:=[s2]
theorem GH (w:World) (os:OsState):segRunT treeTable pw w 11 (some (.ref 6)) 1 214 (sT CK 28 207 w os) (piecesOf C1 env cE ⟨2,0,3,8⟩ B)=some (.next,sT CL 40 223 w os,cE,⟨4,0,5,8⟩):=by
 rewrite [W.Fast.te10110043849684766642,W.Fast.te14364793385576792824];kernel_rfl
def C5:List Stmt:=[s3]
theorem GI (w:World) (os:OsState):segRunT treeTable pw w 11 (some (.ref 6)) 1 214 (sT CL 40 223 w os) (piecesOf C5 env cE ⟨4,0,5,8⟩ B)=some (.next,sT CM 52 239 w os,cE,⟨6,0,7,8⟩):=by
 rewrite [W.Fast.te10110043849684766642,W.Fast.te14364793385576792824];kernel_rfl
def C7:List Stmt:=[s4]
theorem GJ (w:World) (os:OsState):segRunT treeTable pw w 11 (some (.ref 6)) 1 214 (sT CM 52 239 w os) (piecesOf C7 env cE ⟨6,0,7,8⟩ B)=some (.next,sT CP 64 255 w os,cE,⟨8,0,9,8⟩):=by
 rewrite [W.Fast.te10110043849684766642,W.Fast.te14364793385576792824];kernel_rfl
def C8:List Stmt:=[s5]
theorem GK (w:World) (os:OsState):segRunT treeTable pw w 11 (some (.ref 6)) 1 214 (sT CP 64 255 w os) (piecesOf C8 env cE ⟨8,0,9,8⟩ B)=some (.next,sT CQ 76 271 w os,cE,⟨10,0,11,8⟩):=by
 rewrite [W.Fast.te10110043849684766642,W.Fast.te14364793385576792824];kernel_rfl
def C9:List Stmt:=[s6]
theorem GL (w:World) (os:OsState):segRunT treeTable pw w 11 (some (.ref 6)) 1 214 (sT CQ 76 271 w os) (piecesOf C9 env cE ⟨10,0,11,8⟩ B)=some (.next,sT CS 88 287 w os,cE,⟨12,0,13,8⟩):=by
 rewrite [W.Fast.te10110043849684766642,W.Fast.te14364793385576792824];kernel_rfl
def Da:List Stmt:=[s7]
theorem GM (w:World) (os:OsState):segRunT treeTable pw w 11 (some (.ref 6)) 1 214 (sT CS 88 287 w os) (piecesOf Da env cE ⟨12,0,13,8⟩ B)=some (.next,sT CT 100 303 w os,cE,⟨14,0,15,8⟩):=by
 rewrite [W.Fast.te10110043849684766642,W.Fast.te14364793385576792824];kernel_rfl
def Db:List Stmt:=[s8,s9,s10,s11,s12,s13,s14,s15,s16,s17,s18]
theorem GN (w:World) (os:OsState):segRunT treeTable pw w 11 (some (.ref 6)) 1 381 (sT CT 100 303 w os) (piecesOf Db env cE ⟨14,0,15,8⟩ B)=some (.next,sT CU 138 358 w os,cE,⟨38,0,38,6⟩):=by
 rewrite [W.Fast.te10110043849684766642,W.Fast.te14364793385576792824];kernel_rfl
def Dc:List Stmt:=[s19,s20,s21,s22,s23]
theorem GO (w:World) (os:OsState):segRunT treeTable pw w 11 (some (.ref 6)) 1 382 (sT CU 138 358 w os) (piecesOf Dc env cE ⟨38,0,38,6⟩ B)=some (.next,sT CV 194 434 w os,cE,⟨73,0,84,22⟩):=by
 rewrite [W.Fast.te10110043849684766642,W.Fast.te14364793385576792824];kernel_rfl
def Dd:List Stmt:=[s24,s25,s26,s27,s28,s29,s30,s31,s32,s33,s34,s35,s36,s37]
theorem GP (w:World) (os:OsState):segRunT treeTable pw w 11 (some (.ref 6)) 1 400 (sT CV 194 434 w os) (piecesOf Dd env cE ⟨73,0,84,22⟩ B)=some (.next,sT CW 279 546 w os,cE,⟨161,0,164,12⟩):=by
 rewrite [W.Fast.te10110043849684766642,W.Fast.te14364793385576792824];kernel_rfl
def yC:List Stmt:=[s38,s39,s40,s41,s42,s43,s44,s45,s46,s47,s48]
theorem Ed (w:World) (os:OsState):segRunT treeTable pw w 11 (some (.ref 6)) 1 323 (sT CW 279 546 w os) (piecesOf yC env cE ⟨161,0,164,12⟩ B)=some (.next,sT yB 344 638 w os,cE,⟨267,0,277,116⟩):=by
 rewrite [W.Fast.te10110043849684766642,W.Fast.te14364793385576792824];kernel_rfl
theorem GQ (w:World) (os:OsState):topRun treeTable pw w 11 (some (.ref 6)) 2 (sT yB 344 638 w os).abs (restOf [] env cE ⟨267,0,277,116⟩ B)=some (sH hF 638 w os):=by
 rewrite [W.Fast.te14082659384304107361,W.Fast.te14364793385576792824];kernel_rfl
theorem Ee:behindTheImports pw=CZ++(C1++(C5++(C7++(C8++(C9++(Da++(Db++(Dc++(Dd++(yC++[])))))))))):=by kernel_rfl
theorem GR (w:World) (os:OsState):topRun treeTable pw w 11 (some (.ref 6)) (12+(1+(196+(214+(214+(214+(214+(214+(214+(381+(382+(400+(323+(2)))))))))))))) (sO w os) (topStub pw)=some (sH hF 638 w os):=by
 refine go_top (GF w os) (piece_block (CY w os) ?_)
 rw[Ee]
 exact piece_app (segRun_of (GG w os)) (piece_app (segRun_of (GH w os)) (piece_app (segRun_of (GI w os)) (piece_app (segRun_of (GJ w os)) (piece_app (segRun_of (GK w os)) (piece_app (segRun_of (GL w os)) (piece_app (segRun_of (GM w os)) (piece_app (segRun_of (GN w os)) (piece_app (segRun_of (GO w os)) (piece_app (segRun_of (GP w os)) (piece_app (segRun_of (Ed w os)) (GQ w os)))))))))))
def jM:Program:={ pw with main:={ pw.main with body:=[s1,s2,s3,s4,s5,s6,s7,s8,s10,s11,s12,s13,s14,s16,s17,s18,s19,s20,s21,s22,s23,s24,s25,s26,s27,s28,s29,s30,s31,s32,s33,s34,s35,s37,s38,s39,s40,s41,s42,s43,s44,s45,s46,s47,s48] } }
abbrev xP:WRecords:=RowW.records (OpenRow.toRowW (OpenLaw.row PySem.Challenge.rw_ordernest_k03_no_books))
def Xt (s:Shared):Bool:=xlAt jM [] s&&recOk xP s
abbrev H:Hook:=kHook K as_ (fun _=>by kernel_rfl)
theorem Ef (w:World):((boot_heap w.params).isNs mainGlobals&&(Array.mk ([]:List GenState)).size==0,(boot_heap w.params).objs.size,(boot_heap w.params).nsMap mainGlobals "__annotations__")=(true,11,(some (.ref 6))):=by kernel_rfl
open PyProof.Rows in
theorem Eg (w:World) (os:OsState):openSeen jM [] (importedModules pw.main.body) Xt true (sH hF 638 w os)=openGood jM []:=by
 unfold openSeen openGood
 refine looks_pair ?a (looks_pair ?b (looks_pair ?c (looks_pair ?d (looks_pair ?e (looks_pair ?f (looks_pair ?g (looks_pair ?h ?i)))))))
 case a=>rewrite [W.Fast.te5160383126252970620,W.R.mapR_eq,W.Fast.te3399658132070893891,W.Fast.te5991557255702980513];kernel_rfl
 case b=>kernel_rfl
 case c=>rewrite [W.Fast.te10880121769531294198,W.Fast.te821141287760084731,W.R.mapR_eq,W.Fast.te3399658132070893891,W.Fast.te7409074990110511671,W.Fast.te13664370479719496447,W.Fast.te14722251495701143533,W.Fast.te5923862056798008813,W.Fast.te10994771534591457954];kernel_rfl
 case d=>rewrite [W.Fast.te479339242167458305];kernel_rfl
 case e=>rewrite [W.Fast.te16090120013241838585,W.Fast.te3247288618530077131];kernel_rfl
 case f=>rewrite [W.Fast.te2386780881361962483,W.Fast.te821141287760084731];kernel_rfl
 case g=>rewrite [W.Fast.te11698064438423848299];kernel_rfl
 case h=>rewrite [W.Fast.te7317090234206586261];kernel_rfl
 case i=>rewrite [W.Fast.te7369524293546568484];kernel_rfl
theorem Eh (w:World) (os:OsState):(staticsOk (importedModules pw.main.body) (boot_heap w.params) (hF w.params)&&namesBound pw (hF w.params)&&gensDone (sH hF 638 w os)&&laidKept (boot_heap w.params) (hF w.params))=true:=by
 rewrite [W.Fast.te5923862056798008813];kernel_rfl
theorem GS (w:World) (os:OsState):Hook.obs H (sH hF 638 w os)=Hook.val H w:=by kernel_rfl
theorem xQ:opening pw=plainProg pw.main.scope.names:=by kernel_rfl
theorem Ei:LeftO pw jM [] Xt (Hook.obs H) (Hook.val H) 6036:=
 LeftO.of_pieces (H₁:=hF) (boot_open xQ rfl fun s=>by kernel_rfl) Ef GR rfl fun w=>funext fun os=>looks_pair (Eh w os) (looks_pair (Eg w os) (GS w os))
end
end Vw
namespace L2
open PySem PySem.Spec PyProof.Rows
structure Dn (K:W.Frag) (x:Str) (st:Stmt) (f:Addr) (fd:FuncData):Prop where
 fn:Fun K x x st f fd
 ns:W.nsIn K mainGlobals x=some (some (.ref f))
theorem bx {K:W.Frag}{x:Str}{st:Stmt}{f:Addr}{oc:Value}{od an:Option Addr}{osl:Array (Option Value)}{kV doc pm cdv ct:Value}(a:W.nsIn K mainGlobals x=some (some (.ref f)))
  (l:K.lookup f=some ⟨oc,od,.func (W.fnOf x x (dq st) (cC st) (ap st) .none kV doc pm an cdv ct),osl⟩) (c:W.codeIn K cdv x=true) (k:W.keepIn K (.ref f)=true) :
  Dn K x st f (W.fnOf x x (dq st) (cC st) (ap st) .none kV doc pm an cdv ct):=⟨uT l c k,a⟩
theorem Dn.df {P:Program}{w:World}{K:W.Frag}{mg:Str->Option Value}{base h:Heap}{CX:CXT}{k:Nat}{x:Str}{st:Stmt}{f:Addr}{fd:FuncData}{ps:List Str}{sp:Sp}(D:Dn K x st f fd) (X:K.In h) (G:h.Ns mainGlobals mg)
  (b:cD K fd ps []) (F:FnOk P w K mg base CX k f fd ps sp):Df P w K mg base CX k x ps sp:=⟨f,fd,F,b,D.fn.kp,W.mg_of X G D.ns⟩
structure Mn (K:W.Frag) (C:Addr) (x qual:Str) (st:Stmt) (f:Addr) (fd:FuncData):Prop where
 fn:Fun K x qual st f fd
 mt:Meth K C x f
theorem yD {K:W.Frag}{C:Addr}{x qual:Str}{st:Stmt}{f:Addr}{oc:Value}{od an:Option Addr}{osl:Array (Option Value)}{kV doc pm cdv ct:Value}(a:W.findIn K (.ref C) x=some (some (.ref f))) (i:W.isFn K (.ref f)=true)
  (l:K.lookup f=some ⟨oc,od,.func (W.fnOf x qual (dq st) (cC st) (ap st) .none kV doc pm an cdv ct),osl⟩) (c:W.codeIn K cdv qual=true) (k:W.keepIn K (.ref f)=true) :
  Mn K C x qual st f (W.fnOf x qual (dq st) (cC st) (ap st) .none kV doc pm an cdv ct):=⟨uT l c k,a,i,k⟩
theorem eK {p:List Value->Prop}(h:∀a,p [a]) (us:List Value) (e:us.length=1):p us:=by
 cases us with
 | nil=>cases e
 | cons a us=>cases us with
 | nil=>exact h a
 | cons x us=>cases e
theorem dy {p:List Value->Prop}(h:∀a b,p [a,b]) (us:List Value) (e:us.length=2):p us:=by
 cases us with
 | nil=>cases e
 | cons a us=>cases us with
 | nil=>cases e
 | cons b us=>cases us with
 | nil=>exact h a b
 | cons x us=>cases e
theorem ke {p:List Value->Prop}(h:∀a b c,p [a,b,c]) (us:List Value) (e:us.length=3):p us:=by
 cases us with
 | nil=>cases e
 | cons a us=>cases us with
 | nil=>cases e
 | cons b us=>cases us with
 | nil=>cases e
 | cons c us=>cases us with
 | nil=>exact h a b c
 | cons x us=>cases e
theorem Ej {p:List Value->Prop}(h:∀a b c d,p [a,b,c,d]) (us:List Value) (e:us.length=4):p us:=by
 cases us with
 | nil=>cases e
 | cons a us=>cases us with
 | nil=>cases e
 | cons b us=>cases us with
 | nil=>cases e
 | cons c us=>cases us with
 | nil=>cases e
 | cons d us=>cases us with
 | nil=>exact h a b c d
 | cons x us=>cases e
end L2
namespace Ord
open PySem L2 Mx
theorem Kd.mk' {K:W.Frag}{mg:Str->Option Value}{h:Heap}{x:Str}{C D:Addr}{b:Bool}(X:K.In h) (G:h.Ns mainGlobals mg) (ho:W.mroIn K C (.ref C)=some true) (a:W.nsIn K mainGlobals x=some (some (.ref D))) (c:W.isClsIn K D=true) (t:W.typeIn K (.ref D)=some (.type "type")) (m:W.mroIn K C (.ref D)=some b):Kd K mg C x b:=by
 refine⟨D,W.mg_of X G a,?_⟩
 rw[yV ⟨c,t⟩ m]
 by_cases e:C=D
 ·subst e
  rw[ho] at m
  cases m
  rw[if_pos rfl]
 ·rw[if_neg e]
theorem De {l:W.OpenLaw}{w:World}{K:W.Frag}{h:Heap}{mg:Str->Option Value}{fa CO CB CE C:Addr}(X:K.In h) (G:h.Ns mainGlobals mg) (hfa:mg "law"=some (.ref fa))
  {t8 t0 t1 t2:Tok}{fi fk:Addr}{gi gk:FuncData}{f0 f1 f2 f3 f4 f5 f6 f7 f8 f9 f10 f11 f12 f13 f14 f15 f16 f17 f18 f19 f20 f21 f22 f23 f24 f25 f26 f27 f28 f29 f30:Addr}{g0 g1 g2 g3 g4 g5 g6 g7 g8 g9 g10 g11 g12 g13 g14 g15 g16 g17 g18 g19 g20 g21 g22 g23 g24 g25 g26 g27 g28 g29 g30:FuncData}
  (d0:Dn K "is_whole" o8 f0 g0)
  (d1:Dn K "is_count" o9 f1 g1)
  (d2:Dn K "look_count" pe f2 g2)
  (d3:Dn K "look_order" ou f3 g3)
  (d4:Dn K "is_door" p9 f4 g4)
  (d5:Dn K "things_through" kR f5 g5)
  (d6:Dn K "look_parts" qf f6 g6)
  (d7:Dn K "look_first" qe f7 g7)
  (d8:Dn K "look_doors" qc f8 g8)
  (d9:Dn K "things_of_room" jY f9 g9)
  (d10:Dn K "things_from" tT f10 g10)
  (d11:Dn K "walk_rooms" oA f11 g11)
  (d12:Dn K "look_turn" lO f12 g12)
  (d13:Dn K "look_book" tU f13 g13)
  (d14:Dn K "rows_of_room" oB f14 g14)
  (d15:Dn K "orders_in" sIn f15 g15)
  (d16:Dn K "has" xA f16 g16)
  (d17:Dn K "shelve" io f17 g17)
  (d18:Dn K "book_of" mP f18 g18)
  (d19:Dn K "_law_cell" ui f19 g19)
  (d20:Dn K "_law_mix" xI f20 g20)
  (d21:Dn K "_law_all" uj f21 g21)
  (d22:Dn K "_law_set" qL f22 g22)
  (d23:Dn K "_law_lay" gR f23 g23)
  (d24:Dn K "_law_book" jJ f24 g24)
  (d25:Dn K "_law_refusal" uc f25 g25)
  (d26:Dn K "_law_rests" jG f26 g26)
  (d27:Dn K "_law_good" iV f27 g27)
  (d28:Dn K "_law_spoilt" im f28 g28)
  (d29:Dn K "_law_told" ud f29 g29)
  (d30:Dn K "law" i6 f30 g30)
  (aC:W.nsIn K mainGlobals "Shelf"=some (some (.ref C))) (mi:Mn K C "__init__" "Shelf.__init__" ue fi gi) (mk:Mn K C "keep" "Shelf.keep" oE fk gk)
  (pg:W.plainGet K C Str.empty=true) (hd:W.hasDictIn K C=true) (po:W.plainOver K C=true) (sa:W.findIn K (.ref C) "__setattr__"=some (some (.builtin "object.__setattr__"))) (ms:W.makesIn K C=true) (kc:W.keepIn K (.ref C)=true)
  (nR:W.findIn K (.ref C) "rooms"=some none) (nN:W.findIn K (.ref C) "numbers"=some none)
  (xo:W.excIn K CO bmV "ValueError.__new__"=true) (xb:W.excIn K CB bmV "ValueError.__new__"=true)
  (cn:W.nsIn K mainGlobals "NestError"=some (some (.ref CE))) (nt:W.instIn K (.ref CE) (.type "tuple")=some false) (xc:W.mroIn K CE (.type "BaseException")=some true) (cl:W.isClsIn K CE=true)
  {D1 D3 D4 D5 D6:Addr}
  (na0:W.nsIn K mainGlobals "BadBook"=some (some (.ref CB))) (nc0:W.isClsIn K CB=true) (ny0:W.typeIn K (.ref CB)=some (.type "type"))
  (na1:W.nsIn K mainGlobals "BadNumber"=some (some (.ref D1))) (nc1:W.isClsIn K D1=true) (ny1:W.typeIn K (.ref D1)=some (.type "type"))
  (na2:W.nsIn K mainGlobals "BadOrder"=some (some (.ref CO))) (nc2:W.isClsIn K CO=true) (ny2:W.typeIn K (.ref CO)=some (.type "type"))
  (na3:W.nsIn K mainGlobals "BadRule"=some (some (.ref D3))) (nc3:W.isClsIn K D3=true) (ny3:W.typeIn K (.ref D3)=some (.type "type"))
  (na4:W.nsIn K mainGlobals "BadText"=some (some (.ref D4))) (nc4:W.isClsIn K D4=true) (ny4:W.typeIn K (.ref D4)=some (.type "type"))
  (na5:W.nsIn K mainGlobals "BadWeights"=some (some (.ref D5))) (nc5:W.isClsIn K D5=true) (ny5:W.typeIn K (.ref D5)=some (.type "type"))
  (na6:W.nsIn K mainGlobals "Unlike"=some (some (.ref D6))) (nc6:W.isClsIn K D6=true) (ny6:W.typeIn K (.ref D6)=some (.type "type"))
  (onb:W.mroIn K CB (.ref CE)=some true) (eb1:W.isClsIn K CB=true) (eb2:W.findIn K (.ref CB) "__getattribute__"=some (some (.builtin "BaseException.__getattribute__"))) (eb3:W.findIn K (.ref CB) "__getattr__"=some none) (eb4:W.findIn K (.ref CB) "__class__"=some (some (.builtin "object.__class__"))) (eb5:W.mroIn K CB (.type "object")=some true) (eb6:W.mroIn K CB (.type "BaseException")=some true)
  (eb7:W.mroIn K CB (.ref CB)=some true) (eb8:W.mroIn K CB (.type "ValueError")=some true)
  (mb0:W.mroIn K CB (.ref CB)=some true)
  (mb1:W.mroIn K CB (.ref D1)=some false)
  (mb2:W.mroIn K CB (.ref CO)=some false)
  (mb3:W.mroIn K CB (.ref D3)=some false)
  (mb4:W.mroIn K CB (.ref D4)=some false)
  (mb5:W.mroIn K CB (.ref D5)=some false)
  (mb6:W.mroIn K CB (.ref D6)=some false)
  (ono:W.mroIn K CO (.ref CE)=some true) (eo1:W.isClsIn K CO=true) (eo2:W.findIn K (.ref CO) "__getattribute__"=some (some (.builtin "BaseException.__getattribute__"))) (eo3:W.findIn K (.ref CO) "__getattr__"=some none) (eo4:W.findIn K (.ref CO) "__class__"=some (some (.builtin "object.__class__"))) (eo5:W.mroIn K CO (.type "object")=some true) (eo6:W.mroIn K CO (.type "BaseException")=some true)
  (eo7:W.mroIn K CO (.ref CO)=some true) (eo8:W.mroIn K CO (.type "ValueError")=some true)
  (mo0:W.mroIn K CO (.ref CB)=some false)
  (mo1:W.mroIn K CO (.ref D1)=some false)
  (mo2:W.mroIn K CO (.ref CO)=some true)
  (mo3:W.mroIn K CO (.ref D3)=some false)
  (mo4:W.mroIn K CO (.ref D4)=some false)
  (mo5:W.mroIn K CO (.ref D5)=some false)
  (mo6:W.mroIn K CO (.ref D6)=some false)
  (m8:W.nsIn K mainGlobals "MOST_THINGS"=some (some (.int 8 t8))) (m0:W.nsIn K mainGlobals "NO_ROOM"=some (some (.int 0 t0))) (m1:W.nsIn K mainGlobals "END"=some (some (.int 1 t1))) (m2:W.nsIn K mainGlobals "LOWEST"=some (some (.int 2 t2)))
  (z0:W.nsIn K mainGlobals "isinstance"=some none)
  (z1:W.nsIn K mainGlobals "int"=some none)
  (z2:W.nsIn K mainGlobals "bool"=some none)
  (z3:W.nsIn K mainGlobals "tuple"=some none)
  (z4:W.nsIn K mainGlobals "list"=some none)
  (z5:W.nsIn K mainGlobals "range"=some none)
  (z6:W.nsIn K mainGlobals "sorted"=some none)
  (z7:W.nsIn K mainGlobals "all"=some none)
  (z8:W.nsIn K mainGlobals "len"=some none)
  (z9:W.nsIn K mainGlobals "enumerate"=some none)
  (z10:W.nsIn K mainGlobals "set"=some none)
  (z11:W.nsIn K mainGlobals "ValueError"=some none)
  : ∃fd:FuncData,(∀(s:Shared) (v:Value),BindsTo s fd ⟨[v],[]⟩ [("_law_script",v)])∧∀base:Heap,K.In base->base.Ns mainGlobals mg->FnOk l.prog w K mg base CX0 102 fa fd ["_law_script"] (oH K):=by
 have e:=hfa.symm.trans (W.mg_of X G d30.ns)
 cases e
 have T0:Txt K mg CO:=⟨⟨W.mg_of X G na2,xo⟩,⟨t8,W.mg_of X G m8⟩,W.mg_none_of X G z0,W.mg_none_of X G z1,W.mg_none_of X G z2,W.mg_none_of X G z3,W.mg_none_of X G z4,W.mg_none_of X G z5,W.mg_none_of X G z6,W.mg_none_of X G z7,W.mg_none_of X G z8,W.mg_none_of X G z9⟩
 have T:TxB K mg CO:=⟨T0,⟨t0,W.mg_of X G m0⟩,⟨t1,W.mg_of X G m1⟩,⟨t2,W.mg_of X G m2⟩,W.mg_none_of X G z10⟩
 have BB:OwnX K mg "BadBook" CB:=⟨W.mg_of X G na0,xb⟩
 have E0:Tr K mg CE:=⟨W.mg_of X G cn,nt,xc,cl⟩
 have RB:AY K mg CB:=⟨Kd.mk' X G eb7 na0 nc0 ny0 mb0,Kd.mk' X G eb7 na1 nc1 ny1 mb1,Kd.mk' X G eb7 na2 nc2 ny2 mb2,Kd.mk' X G eb7 na3 nc3 ny3 mb3,Kd.mk' X G eb7 na4 nc4 ny4 mb4,Kd.mk' X G eb7 na5 nc5 ny5 mb5,Kd.mk' X G eb7 na6 nc6 ny6 mb6,⟨eb1,eb2,eb3,eb4,eb5,eb6⟩,W.mg_none_of X G z11,uX eb8,rfl,rfl,fun i hi=>by omega,rfl⟩
 have RO:AZ K mg CO:=⟨Kd.mk' X G eo7 na0 nc0 ny0 mo0,Kd.mk' X G eo7 na1 nc1 ny1 mo1,Kd.mk' X G eo7 na2 nc2 ny2 mo2,Kd.mk' X G eo7 na3 nc3 ny3 mo3,Kd.mk' X G eo7 na4 nc4 ny4 mo4,Kd.mk' X G eo7 na5 nc5 ny5 mo5,Kd.mk' X G eo7 na6 nc6 ny6 mo6,⟨eo1,eo2,eo3,eo4,eo5,eo6⟩,W.mg_none_of X G z11,uX eo8,rfl,rfl,fun i hi=>by
   have:i=0∨i=1:=by omega
   rcases this with h|h
   ·subst h;rfl
   ·subst h;rfl,rfl⟩
 have c:ShC K C:=⟨⟨pg,hd,po,sa⟩,nR,nN⟩
 have M:Mk K C fi:=⟨ms,mi.mt.at_,mi.mt.fn,kc⟩
 have mC:=W.mg_of X G aC
 have bi:=mi.fn.binds (ps:=["self"]) fun _ _ _ _ _ _=>eK fun _=>rfl
 have bk:=mk.fn.binds (ps:=["self","room"]) fun _ _ _ _ _ _=>dy fun _ _=>rfl
 have b0:=d0.fn.binds (ps:=["value"]) fun _ _ _ _ _ _=>eK fun _=>rfl
 have b1:=d1.fn.binds (ps:=["many"]) fun _ _ _ _ _ _=>eK fun _=>rfl
 have b2:=d2.fn.binds (ps:=["many"]) fun _ _ _ _ _ _=>eK fun _=>rfl
 have b3:=d3.fn.binds (ps:=["many","order"]) fun _ _ _ _ _ _=>dy fun _ _=>rfl
 have b4:=d4.fn.binds (ps:=["door"]) fun _ _ _ _ _ _=>eK fun _=>rfl
 have b5:=d5.fn.binds (ps:=["door","things"]) fun _ _ _ _ _ _=>dy fun _ _=>rfl
 have b6:=d6.fn.binds (ps:=["book"]) fun _ _ _ _ _ _=>eK fun _=>rfl
 have b7:=d7.fn.binds (ps:=["many","things","first"]) fun _ _ _ _ _ _=>ke fun _ _ _=>rfl
 have b8:=d8.fn.binds (ps:=["many","room","number"]) fun _ _ _ _ _ _=>ke fun _ _ _=>rfl
 have b9:=d9.fn.binds (ps:=["room","things"]) fun _ _ _ _ _ _=>dy fun _ _=>rfl
 have b10:=d10.fn.binds (ps:=["many","rooms"]) fun _ _ _ _ _ _=>dy fun _ _=>rfl
 have b11:=d11.fn.binds (ps:=["rooms","number","walked"]) fun _ _ _ _ _ _=>ke fun _ _ _=>rfl
 have b12:=d12.fn.binds (ps:=["rooms","first"]) fun _ _ _ _ _ _=>dy fun _ _=>rfl
 have b13:=d13.fn.binds (ps:=["book"]) fun _ _ _ _ _ _=>eK fun _=>rfl
 have b14:=d14.fn.binds (ps:=["room","rows"]) fun _ _ _ _ _ _=>dy fun _ _=>rfl
 have b15:=d15.fn.binds (ps:=["book"]) fun _ _ _ _ _ _=>eK fun _=>rfl
 have b16:=d16.fn.binds (ps:=["book","order"]) fun _ _ _ _ _ _=>dy fun _ _=>rfl
 have b17:=d17.fn.binds (ps:=["shelf","orders","place"]) fun _ _ _ _ _ _=>ke fun _ _ _=>rfl
 have b18:=d18.fn.binds (ps:=["many","orders"]) fun _ _ _ _ _ _=>dy fun _ _=>rfl
 have b19:=d19.fn.binds (ps:=["_law_script","_law_k"]) fun _ _ _ _ _ _=>dy fun _ _=>rfl
 have b20:=d20.fn.binds (ps:=["_law_script","_law_k"]) fun _ _ _ _ _ _=>dy fun _ _=>rfl
 have b21:=d21.fn.binds (ps:=["_law_many"]) fun _ _ _ _ _ _=>eK fun _=>rfl
 have b22:=d22.fn.binds (ps:=["_law_script","_law_k","_law_many"]) fun _ _ _ _ _ _=>ke fun _ _ _=>rfl
 have b23:=d23.fn.binds (ps:=["_law_many","_law_left","_law_orders","_law_rooms"]) fun _ _ _ _ _ _=>Ej fun _ _ _ _=>rfl
 have b24:=d24.fn.binds (ps:=["_law_many","_law_orders"]) fun _ _ _ _ _ _=>dy fun _ _=>rfl
 have b25:=d25.fn.binds (ps:=["_law_kept"]) fun _ _ _ _ _ _=>eK fun _=>rfl
 have b26:=d26.fn.binds (ps:=["_law_some","_law_number","_law_seen"]) fun _ _ _ _ _ _=>ke fun _ _ _=>rfl
 have b27:=d27.fn.binds (ps:=["_law_book_here"]) fun _ _ _ _ _ _=>eK fun _=>rfl
 have b28:=d28.fn.binds (ps:=["_law_book_here","_law_number"]) fun _ _ _ _ _ _=>dy fun _ _=>rfl
 have b29:=d29.fn.binds (ps:=["_law_way","_law_book_here"]) fun _ _ _ _ _ _=>dy fun _ _=>rfl
 have b30:=d30.fn.binds (ps:=["_law_script"]) fun _ _ _ _ _ _=>eK fun _=>rfl
 refine⟨g30,fun s v=>?_,fun base _ _=>?_⟩
 ·obtain⟨oc,od,kV,doc,pm,an,cdv,ct,osl,rfl,lk,hcd⟩:=d30.fn.ex
  exact .of_eq rfl
 have Fi:=zL (P:=l.prog) (w:=w) (mg:=mg) (base:=base) mi.fn c
 have Fk:=zM (P:=l.prog) (w:=w) (base:=base) mk.fn T c
 have W0:=d0.df (P:=l.prog) (w:=w) (base:=base) X G b0 (wL d0.fn T.t)
 have W1:=d1.df (P:=l.prog) (w:=w) (base:=base) X G b1 (wM d1.fn T.t W0)
 have W2:=d2.df (P:=l.prog) (w:=w) (base:=base) X G b2 (wN d2.fn T.t W1)
 have W3:=d3.df (P:=l.prog) (w:=w) (base:=base) X G b3 (yZ d3.fn T.t W2 W0)
 have W4:=d4.df (P:=l.prog) (w:=w) (base:=base) X G b4 (xu d4.fn T W0)
 have W5:=d5.df (P:=l.prog) (w:=w) (base:=base) X G b5 (rz d5.fn BB)
 have W6:=d6.df (P:=l.prog) (w:=w) (base:=base) X G b6 (vI d6.fn T BB W0 W1)
 have W7:=d7.df (P:=l.prog) (w:=w) (base:=base) X G b7 (vH d7.fn T BB)
 have W8:=d8.df (P:=l.prog) (w:=w) (base:=base) X G b8 (vJ d8.fn T BB W4)
 have W9:=d9.df (P:=l.prog) (w:=w) (base:=base) X G b9 (tZ d9.fn T BB W5)
 have W10:=d10.df (P:=l.prog) (w:=w) (base:=base) X G b10 (xz d10.fn T W8 W9)
 have W11:=fun n=>d11.df (P:=l.prog) (w:=w) (base:=base) X G b11 (sr d11.fn T b11 (W.mg_of X G d11.ns) n)
 have W12:=d12.df (P:=l.prog) (w:=w) (base:=base) X G b12 (vM 8 d12.fn T BB (W11 8))
 have W13:=d13.df (P:=l.prog) (w:=w) (base:=base) X G b13 (xB d13.fn W6 W10 W7 W12)
 have W14:=d14.df (P:=l.prog) (w:=w) (base:=base) X G b14 (zF d14.fn)
 have W15:=d15.df (P:=l.prog) (w:=w) (base:=base) X G b15 (AX d15.fn W13 W14)
 have W16:=d16.df (P:=l.prog) (w:=w) (base:=base) X G b16 (zH d16.fn T W13 W3)
 have W17:=fun n=>d17.df (P:=l.prog) (w:=w) (base:=base) X G b17 (nS d17.fn T c mk.mt Fk bk b17 (W.mg_of X G d17.ns) n)
 have W18:=d18.df (P:=l.prog) (w:=w) (base:=base) X G b18 (vS d18.fn T c M Fi bi mC W2 W3 W17)
 have W19:=d19.df (P:=l.prog) (w:=w) (base:=base) X G b19 (zO d19.fn T)
 have W20:=d20.df (P:=l.prog) (w:=w) (base:=base) X G b20 (A6 d20.fn T W19)
 have W21:=d21.df (P:=l.prog) (w:=w) (base:=base) X G b21 (A7 d21.fn T)
 have W22:=d22.df (P:=l.prog) (w:=w) (base:=base) X G b22 (A8 d22.fn T W21 W20)
 have W23:=fun n=>d23.df (P:=l.prog) (w:=w) (base:=base) X G b23 (v7 d23.fn T b23 (W.mg_of X G d23.ns) n)
 have W24:=d24.df (P:=l.prog) (w:=w) (base:=base) X G b24 (xJ d24.fn T W23)
 have W25:=d25.df (P:=l.prog) (w:=w) (base:=base) X G b25 (zJ d25.fn T)
 have W26:=fun n=>d26.df (P:=l.prog) (w:=w) (base:=base) X G b26 (qN d26.fn T b26 (W.mg_of X G d26.ns) n)
 have W27:=d27.df (P:=l.prog) (w:=w) (base:=base) X G b27 (zR 99 (by decide) (by decide) d27.fn T (W26 99) W24)
 have W28:=d28.df (P:=l.prog) (w:=w) (base:=base) X G b28 (wk d28.fn T)
 have W29:=d29.df (P:=l.prog) (w:=w) (base:=base) X G b29 (zK d29.fn E0 onb ono RB RO W13 W15 W16 W25)
 exact Bd d30.fn T W20 W22 W18 W29 W28 W27
theorem walk {l:W.OpenLaw}{q:Program}{loose:List Str}{XP:(Str->Option Value)->Heap->Prop}{YP:World->Heap->Prop}{d:DefRec}{K:Params->W.Frag}(hn:l.most=some 63) (hdf:d.params.defaults=[])
  (hY:∀(w:World) (h:Heap),YP w h->(K w.params).In h)
  (F:∀(w:World) (mg:Str->Option Value) (fa:Addr) (h:Heap),(K w.params).In h->h.Ns mainGlobals mg->mg d.name=some (.ref fa)->
   ∃fd:FuncData,(∀(s:Shared) (u:Value),BindsTo s fd ⟨[u],[]⟩ [("_law_script",u)])∧∀base:Heap,(K w.params).In base->base.Ns mainGlobals mg->FnOk l.prog w (K w.params) mg base CX0 102 fa fd ["_law_script"] (oH (K w.params))) :
  W.WalkO q loose XP YP l.row.toRowW d [] (fun f vs=>PySem.call f vs):=
 L2.yR (n:=63) (k:=102) (x:="_law_script") (CX:=fun _=>CX0) (sp:=fun w=>oH (K w.params)) hn (by decide) hdf ⟨rfl,by decide,by decide,rfl⟩ hY F (fun _ _ a ns hl _ hS=>⟨a,ns,rfl,hS,fun _=>rfl⟩) fun _ _ _ _ _ z=>z
end Ord
open PySem PySem.W PyProof.Rows
set_option maxRecDepth 100000 in
set_option maxHeartbeats 0 in
theorem PySem.Challenge.cw_ordernest_k03_no_books_holds : PySem.Challenge.rw_ordernest_k03_no_books.Holds := by
 w_on;o_law
 refine holds_open (q:=Vw.jM) (loose:=[]) (Xt:=Vw.Xt) (XP:=XL Vw.jM []) (Yf:=Hook.obs Vw.H) (Ya:=Hook.val Vw.H)
  (YP:=Hook.says Vw.H) (N:=6036) Vw.Ei (Hook.of Vw.H) (Hook.keeps Vw.H) (fun s e=>xl_of s (Bool.and_eq_true_iff.mp (id e:(xlAt Vw.jM [] s&&recOk Vw.xP s)=true)).1) XL.keeps
  (by rfl) (by rfl) (by rfl) (fun s e=>recFacts_of (Bool.and_eq_true_iff.mp (id e:(xlAt Vw.jM [] s&&recOk Vw.xP s)=true)).2) (by rfl)
  (by assumption) (by decide +kernel) ⟨rfl,rfl,rfl,rfl,rfl,by decide +kernel⟩ ?hw ?hc
 (case hw=>w_witness2)
 refine Ord.walk (l:=PySem.Challenge.rw_ordernest_k03_no_books) rfl rfl (fun w h Y=>W.kIn_of Y) ?F
 case F=>
  intro w mg fa h KX G hmg
  k_fill
  refine' Ord.De KX G hmg (L2.bx ?a0 ?l0 ?c0 ?k0) (L2.bx ?a1 ?l1 ?c1 ?k1) (L2.bx ?a2 ?l2 ?c2 ?k2) (L2.bx ?a3 ?l3 ?c3 ?k3) (L2.bx ?a4 ?l4 ?c4 ?k4) (L2.bx ?a5 ?l5 ?c5 ?k5) (L2.bx ?a6 ?l6 ?c6 ?k6) (L2.bx ?a7 ?l7 ?c7 ?k7) (L2.bx ?a8 ?l8 ?c8 ?k8) (L2.bx ?a9 ?l9 ?c9 ?k9) (L2.bx ?a10 ?l10 ?c10 ?k10) (L2.bx ?a11 ?l11 ?c11 ?k11) (L2.bx ?a12 ?l12 ?c12 ?k12) (L2.bx ?a13 ?l13 ?c13 ?k13) (L2.bx ?a14 ?l14 ?c14 ?k14) (L2.bx ?a15 ?l15 ?c15 ?k15) (L2.bx ?a16 ?l16 ?c16 ?k16) (L2.bx ?a17 ?l17 ?c17 ?k17) (L2.bx ?a18 ?l18 ?c18 ?k18) (L2.bx ?a19 ?l19 ?c19 ?k19) (L2.bx ?a20 ?l20 ?c20 ?k20) (L2.bx ?a21 ?l21 ?c21 ?k21) (L2.bx ?a22 ?l22 ?c22 ?k22) (L2.bx ?a23 ?l23 ?c23 ?k23) (L2.bx ?a24 ?l24 ?c24 ?k24) (L2.bx ?a25 ?l25 ?c25 ?k25) (L2.bx ?a26 ?l26 ?c26 ?k26) (L2.bx ?a27 ?l27 ?c27 ?k27) (L2.bx ?a28 ?l28 ?c28 ?k28) (L2.bx ?a29 ?l29 ?c29 ?k29) (L2.bx ?a30 ?l30 ?c30 ?k30) ?aC (L2.yD ?ia ?ii ?il ?ic ?ik) (L2.yD ?ka ?ki ?kl ?kcc ?kk) ?pg ?hd ?po ?sa ?ms ?kc ?nR ?nN ?xo ?xb ?cn ?nt ?xc ?cl ?na0 ?nc0 ?ny0 ?na1 ?nc1 ?ny1 ?na2 ?nc2 ?ny2 ?na3 ?nc3 ?ny3 ?na4 ?nc4 ?ny4 ?na5 ?nc5 ?ny5 ?na6 ?nc6 ?ny6 ?onb ?eb1 ?eb2 ?eb3 ?eb4 ?eb5 ?eb6 ?eb7 ?eb8 ?mb0 ?mb1 ?mb2 ?mb3 ?mb4 ?mb5 ?mb6 ?ono ?eo1 ?eo2 ?eo3 ?eo4 ?eo5 ?eo6 ?eo7 ?eo8 ?mo0 ?mo1 ?mo2 ?mo3 ?mo4 ?mo5 ?mo6 ?m8 ?m0 ?m1 ?m2 ?z0 ?z1 ?z2 ?z3 ?z4 ?z5 ?z6 ?z7 ?z8 ?z9 ?z10 ?z11
  case a0|l0|c0|k0|a1|l1|c1|k1|a2|l2|c2|k2|a3|l3|c3|k3|a4|l4|c4|k4|a5|l5|c5|k5|a6|l6|c6|k6|a7|l7|c7|k7|a8|l8|c8|k8|a9|l9|c9|k9|a10|l10|c10|k10|a11|l11|c11|k11|a12|l12|c12|k12|a13|l13|c13|k13|a14|l14|c14|k14|a15|l15|c15|k15|a16|l16|c16|k16|a17|l17|c17|k17|a18|l18|c18|k18|a19|l19|c19|k19|a20|l20|c20|k20|a21|l21|c21|k21|a22|l22|c22|k22|a23|l23|c23|k23|a24|l24|c24|k24|a25|l25|c25|k25|a26|l26|c26|k26|a27|l27|c27|k27|a28|l28|c28|k28|a29|l29|c29|k29|a30|l30|c30|k30|aC|ia|ii|il|ic|ik|ka|ki|kl|kcc|kk|pg|hd|po|sa|ms|kc|nR|nN|na2|na0=>k_is
  (case xo=>k_exc);(case xb=>k_exc);(case cn=>k_is);(case nt=>k_is);(case xc=>k_is);(case cl=>k_is);(case nc0=>k_is);(case ny0=>k_is);(case na1=>k_is);(case nc1=>k_is);(case ny1=>k_is);(case nc2=>k_is);(case ny2=>k_is);(case na3=>k_is);(case nc3=>k_is);(case ny3=>k_is);(case na4=>k_is);(case nc4=>k_is);(case ny4=>k_is);(case na5=>k_is);(case nc5=>k_is);(case ny5=>k_is);(case na6=>k_is);(case nc6=>k_is);(case ny6=>k_is);(case onb=>k_is);(case eb1=>k_is);(case eb2=>k_is);(case eb3=>k_is);(case eb4=>k_is);(case eb5=>k_is);(case eb6=>k_is);(case eb7=>k_is);(case eb8=>k_is);(case mb0=>k_is);(case mb1=>k_is);(case mb2=>k_is);(case mb3=>k_is);(case mb4=>k_is);(case mb5=>k_is);(case mb6=>k_is);(case ono=>k_is);(case eo1=>k_is);(case eo2=>k_is);(case eo3=>k_is);(case eo4=>k_is);(case eo5=>k_is);(case eo6=>k_is);(case eo7=>k_is);(case eo8=>k_is);(case mo0=>k_is);(case mo1=>k_is);(case mo2=>k_is);(case mo3=>k_is);(case mo4=>k_is);(case mo5=>k_is);(case mo6=>k_is);(case m8=>k_is);(case m0=>k_is);(case m1=>k_is);(case m2=>k_is)
  case z0|z1|z2|z3|z4|z5|z6|z7|z8|z9|z10|z11=>k_is