import PyProof.Rows.All
import Wide.All
import OpenK.AllK
import Wide.FinOn
import Lean
import PyProof.EqAt
import PyProof.EqKinds
import PyProof.TupleCall
import KE.KIsAll
import PyProof.ExcAttrAll.ValueError
import KE.KDictList
import KE.KDictLaws
import PyProof.Rows.SortShellK
import PySem.SetOps
import PyProof.SetScanFacts
import PyProof.Rows.SetFrom
import PyProof.Rows.SumAny
import PySem.Challenge.RW_ordernest_k60_texts
theorem ex5 {α:Sort u}{β:Sort v}{p q r:α->β->Prop}{C:Prop}(h:∃a b,p a b∧q a b∧r a b) (k:∀a b,p a b->q a b->r a b->C):C:=
 Exists.elim h fun a h=>Exists.elim h fun b h=>k a b h.1 h.2.1 h.2.2
set_option compiler.extract_closed false
set_option Elab.async false
set_option linter.all false
set_option maxRecDepth 100000
namespace L2
open PySem PySem.Spec PyProof.Rows
abbrev Key:=Sum Int Str
def gZ:Key->Value->Bool
 | .inl k,v=>Value.isInt k v
 | .inr x,v=>Value.isStrOf x v
def Er (w:World):Key->Int
 | .inl k=>hashInt k
 | .inr x=>hashStr w x
theorem bK:∀{k:Key}{v:Value},gZ k v=true->(∃i t,k=Sum.inl i∧v=Value.int i t)∨(∃x t,k=Sum.inr x∧v=Value.str x t)
 | .inl i,v,h=>by
  obtain⟨t,e⟩:=Value.isInt_shape (k:=i) (v:=v) h
  exact .inl ⟨i,t,rfl,e⟩
 | .inr x,v,h=>by
  obtain⟨t,e⟩:=Value.isStrOf_shape (x:=x) (v:=v) h
  exact .inr ⟨x,t,rfl,e⟩
theorem uy (i:Int) (t:Tok):gZ (.inl i) (.int i t)=true:=by simp[gZ,Value.isInt]
theorem uz (x:Str) (t:Tok):gZ (.inr x) (.str x t)=true:=by simp[gZ,Value.isStrOf]
theorem Ag (a b:Int):decide ((Sum.inl a:Key)=Sum.inl b)=(a==b):=by
 by_cases e:a=b
 ·subst e;simp
 ·have h:¬(Sum.inl a:Key)=Sum.inl b:=fun q=>e (Sum.inl.inj q)
  rw[decide_eq_false h]
  exact(beq_eq_false_iff_ne.mpr e).symm
theorem Ah (a b:Str):decide ((Sum.inr a:Key)=Sum.inr b)=decide (a=b):=by
 by_cases e:a=b
 ·subst e;simp
 ·have h:¬(Sum.inr a:Key)=Sum.inr b:=fun q=>e (Sum.inr.inj q)
  rw[decide_eq_false h,decide_eq_false e]
theorem Ai (a:Int) (b:Str):decide ((Sum.inl a:Key)=Sum.inr b)=false:=decide_eq_false (fun q=>nomatch q)
theorem Aj (a:Str) (b:Int):decide ((Sum.inr a:Key)=Sum.inl b)=false:=decide_eq_false (fun q=>nomatch q)
def aX (prog:Program) (w:World):PySem.KeyKind prog w Key where
 is:=gZ
 hash:=Er w
 inj:=fun v a b ha hb=>by
  rcases bK ha with⟨i,t,rfl,rfl⟩|⟨x,t,rfl,rfl⟩
  ·rcases bK hb with⟨j,u,rfl,e⟩|⟨y,u,rfl,e⟩
   ·injection e with e1 _;rw[e1]
   ·exact nomatch e
  ·rcases bK hb with⟨j,u,rfl,e⟩|⟨y,u,rfl,e⟩
   ·exact nomatch e
   ·injection e with e1 _;rw[e1]
 byValue:=fun k v h=>by
  rcases bK h with⟨i,t,rfl,rfl⟩|⟨x,t,rfl,rfl⟩ <;> rfl
 pyHash:=fun hv h=>by
  rcases bK hv with⟨i,t,rfl,rfl⟩|⟨x,t,rfl,rfl⟩
  ·exact wpAny_pyHash_int h
  ·exact wpAny_pyHash_str h
 eqBool:=fun hu hv h=>by
  rcases bK hu with⟨i,t,rfl,rfl⟩|⟨x,t,rfl,rfl⟩
  ·rcases bK hv with⟨j,u,rfl,rfl⟩|⟨y,u,rfl,rfl⟩
   ·rw[Ag] at h;exact wpAny_eqBool_int h
   ·rw[Ai] at h;exact SeqAt.EqAt.int_str i t y u _ _ _ _ h
  ·rcases bK hv with⟨j,u,rfl,rfl⟩|⟨y,u,rfl,rfl⟩
   ·rw[Aj] at h;exact SeqAt.EqAt.str_int x t j u _ _ _ _ h
   ·rw[Ah] at h;exact wpAny_eqBool_str h
 «strs»:=fun k x t v h=>by
  rcases bK h with⟨i,u,rfl,e⟩|⟨y,u,rfl,e⟩
  ·exact nomatch e
  ·injection e with e1 _
   subst e1
   cases v <;> rfl
theorem sP (prog:Program) (w:World) (k:Key) (v:Value):(aX prog w).is k v=gZ k v:=rfl
theorem qU (prog:Program) (w:World) (i:Int) (t:Tok):(aX prog w).is (.inl i) (.int i t)=true:=uy i t
theorem qV (prog:Program) (w:World) (x:Str) (t:Tok):(aX prog w).is (.inr x) (.str x t)=true:=uz x t
end L2
namespace L2
open PySem PySem.Spec PyProof.Rows
inductive V where
 | non|bl (b:Bool)|int (i:Int)|str (x:Str)|byt (b:Array UInt8)|flt (b:UInt64)|ref (a:Addr)|ty (n:String)
 deriving DecidableEq
def az:V->Value->Prop
 | .non,u=>u=Value.none
 | .bl b,u=>u=Value.bool b
 | .int i,u=>∃t,u=Value.int i t
 | .str x,u=>∃t,u=Value.str x t
 | .byt b,u=>∃t,u=Value.bytes b t
 | .flt b,u=>∃t,u=Value.float b t
 | .ref a,u=>u=Value.ref a
 | .ty n,u=>u=Value.type n
abbrev av:List V->List Value->Prop:=Paired az
theorem av.length {xs:List V}{us:List Value}(r:av xs us):xs.length=us.length:=Paired.length r
theorem av.get:∀{xs:List V}{us:List Value}{i:Nat}{x:V},av xs us->xs[i]?=some x->∃u,us[i]?=some u∧az x u
 | _,_,_,_,.nil,e=>by simp at e
 | _,_,0,_,.cons r _,e=>by simp at e;subst e;exact⟨_,rfl,r⟩
 | _,_,i+1,x,.cons _ t,e=>by
  obtain⟨u,h1,h2⟩:=av.get (i:=i) (x:=x) t (by simpa using e)
  exact⟨u,by simpa using h1,h2⟩
theorem av.append:∀{xs ys:List V}{us ws:List Value},av xs us->av ys ws->av (xs++ys) (us++ws)
 | _,_,_,_,.nil,s=>s
 | _,_,_,_,.cons r t,s=>.cons r (av.append t s)
theorem av.take:∀{xs:List V}{us:List Value}(n:Nat),av xs us->av (xs.take n) (us.take n)
 | _,_,0,_=>.nil
 | _,_,_+1,.nil=>.nil
 | _,_,n+1,.cons r t=>.cons r (av.take n t)
theorem av.drop:∀{xs:List V}{us:List Value}(n:Nat),av xs us->av (xs.drop n) (us.drop n)
 | _,_,0,r=>r
 | _,_,_+1,.nil=>.nil
 | _,_,n+1,.cons _ t=>av.drop n t
def dH:Option V->Option Value->Prop
 | some v,some u=>az v u
 | none,none=>True
 | _,_=>False
def KV {κ:Type}:List (κ×V)->List (κ×Value)->Prop:=Paired fun(p:κ×V) (q:κ×Value)=>p.1=q.1∧az p.2 q.2
def kV:Key->V
 | .inl i=>.int i
 | .inr x=>.str x
inductive HO where
  | lst (xs:List V)
  | tup (xs:List V)
  | dK (kvs:List (Key×V))|dT (kvs:List (List Key×V))
  | set (S:Int->Bool) (n:Nat)
  | ins (C dx:Addr) (fs:List (Str×V))
  | own (x:Addr)
  | xd (fs:List (Str×V))
  | met (f x:Addr)
  | rng (lo hi:Int)
  | frz (o:Obj) (u:HO)
  | tbl (ps:Array Value)
  | ext (φ:Heap->Prop)
abbrev Hp:=Addr->Option HO
def upd (H:Hp) (a:Addr) (o:HO):Hp:=fun b=>if b=a then some o else H b
theorem ag {H:Hp}{a:Addr}{o:HO}:upd H a o a=some o:=by unfold upd;rw[if_pos rfl]
theorem ap {H:Hp}{a b:Addr}{o:HO}(h:b≠a):upd H a o b=H b:=by unfold upd;rw[if_neg h]
theorem nU {H:Hp}{a b:Addr}{o u:HO}(h:H a=some o) (h':H b=some u) (d:o≠u):a≠b:=by
 intro e;subst e;rw[h] at h';exact d (Option.some.inj h')
theorem au {H:Hp}{a b:Addr}{o:HO}(h:H a=some o) (h':H b=none):a≠b:=by
 intro e;subst e;rw[h] at h';cases h'
def fM (h:Heap) (a:Addr) (items:Array Value):Prop:=∃o,h.get? a=some o∧o.cls=.type "tuple"∧∃n,o.data=.seq items n∧o.dict=none
theorem fM.tup {h:Heap}{a:Addr}{items:Array Value}(x:fM h a items):IsTup h a items:=let ⟨o,e,c,n,d,_⟩:=x;⟨o,e,c,n,d⟩
theorem fM.new (h:Heap) (items:Array Value):fM (h.push { cls:=.type "tuple",data:=.seq items }) h.objs.size items:=⟨_,Heap.get?_push_size _ rfl,rfl,_,rfl,rfl⟩
section
variable (P:Program) (w:World)
def aS (H:Hp) (h:Heap) (a:Addr):HO->Prop
 | .lst xs=>xs.length≤sizeLine∧∃(its:List Value) (n:Nat),av xs its∧h.get? a=some { cls:=.type "list",data:=.seq its.toArray n }
 | .tup xs=>xs.length≤sizeLine∧∃its:List Value,av xs its∧fM h a its.toArray
 | .dK kvs=>kvs.length≤sizeLine∧(a==sysModules)=false∧∃vs,KV kvs vs∧h.DictOf (aX P w) a vs
 | .dT kvs=>kvs.length≤sizeLine∧(a==sysModules)=false∧∃xs:List (List Key×Addr×Value),
   Paired (fun(p:List Key×V) (q:List Key×Addr×Value)=>p.1=q.1∧H q.2.1=some (.tup (p.1.map kV))∧az p.2 q.2.2) kvs xs∧
   ∃o es ep,h.get? a=some o∧o.ExactDict∧o.data=.dict es ep∧es.toList=xs.map (entryOfKey (tupleKind (aX P w)))∧(xs.map (·.1)).Nodup
 | .set S n=>h.SetOf (intKind P w) a S n
 | .ins C dx fs=>H dx=some (.own a)∧fs.length≤1000∧dx≠a∧h.get? a=some (W.instObj C dx)∧
   ∃mA,h.Ns1 dx mA∧(∀f,dH (fs.lookup f) (mA f))∧PySem.Within mA (fs.map (·.1))
 | .own _=>∃o,h.get? a=some o
 | .xd fs=>∃mA,h.Ns1 a mA∧∀f,dH (fs.lookup f) (mA f)
 | .rng lo hi=>∃t u v,h.get? a=some { cls:=.type "range",data:=.fields #[.int lo t,.int hi u,.int 1 v] }
 | .frz o u=>h.get? a=some o∧aS H h a u
 | .tbl ps=>h.get? a=some { cls:=.none,data:=.fields ps }
 | .met f x=>h.get? a=some (W.methodObj (.ref f) (.ref x))
 | .ext φ=>φ h∧(∃o,h.get? a=some o)∧∀h1 h2:Heap,φ h1->(∀o,h1.get? a=some o->h2.get? a=some o)->φ h2
def HOk (H:Hp) (h:Heap):Prop:=∀a o,H a=some o->aS P w H h a o
end
section
variable {P:Program}{w:World}{H H':Hp}{h h':Heap}{a:Addr}{o:HO}
theorem aS.lt (x:aS P w H h a o):a<h.objs.size:=by
 cases o with
 | lst xs=>obtain⟨_,_,_,_,e⟩:=x;exact Heap.lt_size e
 | tup xs=>obtain⟨_,_,_,p⟩:=x;exact p.tup.lt
 | dK kvs=>obtain⟨_,_,_,_,o,_,_,e,_⟩:=x;exact Heap.lt_size e
 | dT kvs=>obtain⟨_,_,_,_,o,_,_,e,_⟩:=x;exact Heap.lt_size e
 | set S n=>obtain⟨o,_,_,_,e,_⟩:=x;exact Heap.lt_size e
 | ins C dx fs=>obtain⟨_,_,_,e,_⟩:=x;exact Heap.lt_size e
 | own y=>obtain⟨_,e⟩:=x;exact Heap.lt_size e
 | xd fs=>obtain⟨_,⟨_,_,_,e,_⟩,_⟩:=x;exact Heap.lt_size e
 | rng lo hi=>obtain⟨_,_,_,e⟩:=x;exact Heap.lt_size e
 | frz ob u=>obtain⟨e,_⟩:=x;exact Heap.lt_size e
 | tbl ps=>exact Heap.lt_size (show h.get? a=some _ from x)
 | met f y=>exact Heap.lt_size (show h.get? a=some _ from x)
 | ext φ=>obtain⟨_,⟨_,e⟩,_⟩:=x;exact Heap.lt_size e
theorem Paired.mapP {α β:Type}{F G:α->β->Prop}:∀{l₁:List α}{l₂:List β},Paired F l₁ l₂->(∀a b,F a b->G a b)->Paired G l₁ l₂
 | _,_,.nil,_=>.nil
 | _,_,.cons r t,f=>.cons (f _ _ r) (Paired.mapP t f)
theorem aS.stay (x:aS P w H h a o) (k:∀b u,(b=a∨H b=some (.own a))->h.get? b=some u->h'.get? b=some u)
  (ho:∀b,H b=some (.own a)->H' b=some (.own a)) (ht:∀b xs,H b=some (.tup xs)->H' b=some (.tup xs)):aS P w H' h' a o:=by
 induction o with
 | lst xs=>obtain⟨z,its,n,r,e⟩:=x;exact⟨z,its,n,r,k _ _ (.inl rfl) e⟩
 | tup xs=>obtain⟨z,its,r,ob,e,c⟩:=x;exact⟨z,its,r,ob,k _ _ (.inl rfl) e,c⟩
 | dK kvs=>obtain⟨z,y,vs,r,ob,es,ep,e,c⟩:=x;exact⟨z,y,vs,r,ob,es,ep,k _ _ (.inl rfl) e,c⟩
 | dT kvs=>
  obtain⟨z,y,xs,r,ob,es,ep,e,c⟩:=x
  exact⟨z,y,xs,Paired.mapP r fun p q z=>⟨z.1,ht _ _ z.2.1,z.2.2⟩,ob,es,ep,k _ _ (.inl rfl) e,c⟩
 | set S n=>obtain⟨ob,es,ep,t,e,c⟩:=x;exact⟨ob,es,ep,t,k _ _ (.inl rfl) e,c⟩
 | ins C dx fs=>
  obtain⟨d,z,ne,e,mA,⟨od,es,ep,e2,c⟩,r⟩:=x
  exact⟨ho _ d,z,ne,k _ _ (.inl rfl) e,mA,⟨od,es,ep,k _ _ (.inr d) e2,c⟩,r⟩
 | own y=>obtain⟨ob,e⟩:=x;exact⟨ob,k _ _ (.inl rfl) e⟩
 | xd fs=>obtain⟨mA,⟨od,es,ep,e,c⟩,r⟩:=x;exact⟨mA,⟨od,es,ep,k _ _ (.inl rfl) e,c⟩,r⟩
 | rng lo hi=>obtain⟨t,u,v,e⟩:=x;exact⟨t,u,v,k _ _ (.inl rfl) e⟩
 | frz ob u ih=>obtain⟨e,q⟩:=x;exact⟨k _ _ (.inl rfl) e,ih q⟩
 | tbl ps=>
  have e:h.get? a=some { cls:=.none,data:=.fields ps }:=x
  show h'.get? a=some { cls:=.none,data:=.fields ps }
  exact k a _ (.inl rfl) e
 | met f y=>
  have e:h.get? a=some (W.methodObj (.ref f) (.ref y)):=x
  show h'.get? a=some (W.methodObj (.ref f) (.ref y))
  exact k a _ (.inl rfl) e
 | ext φ=>obtain⟨p,⟨o,e⟩,st⟩:=x;exact⟨st _ _ p fun o q=>k _ _ (.inl rfl) q,⟨o,k _ _ (.inl rfl) e⟩,st⟩
theorem HOk.lt (x:HOk P w H h) (e:H a=some o):a<h.objs.size:=(x a o e).lt
theorem HOk.fresh (x:HOk P w H h) (e:h.objs.size≤a):H a=none:=by
 cases q:H a with
 | none=>rfl
 | some u=>exact absurd (Nat.lt_of_lt_of_le (x.lt q) e) (Nat.lt_irrefl _)
theorem HOk.kept (x:HOk P w H h) (k:∀b u,h.get? b=some u->h'.get? b=some u):HOk P w H h':=fun a o e=>
 (x a o e).stay (fun b u _ q=>k b u q) (fun _ q=>q) fun _ _ q=>q
theorem HOk.laid (x:HOk P w H h) (k:∀b u,h.get? b=some u->h'.get? b=some u) (hp:h.objs.size≤a) (new:aS P w (upd H a o) h' a o):HOk P w (upd H a o) h':=fun b u e=>by
 have hn:=x.fresh hp
 by_cases hb:b=a
 ·subst hb;rw[ag] at e;cases e;exact new
 ·rw[ap hb] at e
  exact(x b u e).stay (fun c v _ q=>k c v q) (fun c q=>by rw[ap (au q hn)];exact q) fun c xs q=>by rw[ap (au q hn)];exact q
end
def Rd (H:Hp) (a:Addr) (u:HO):Prop:=H a=some u∨∃o,H a=some (.frz o u)
theorem Rd.ok {P:Program}{w:World}{H:Hp}{h:Heap}{a:Addr}{u:HO}(r:Rd H a u) (x:HOk P w H h):aS P w H h a u:=by
 rcases r with r|⟨o,r⟩
 ·exact x a u r
 ·obtain⟨_,q⟩:=x a _ r
  exact q
def Mut:Option HO->Prop
 | some (.lst _)=>True
 | some (.dK _)=>True
 | some (.dT _)=>True
 | some (.set _ _)=>True
 | some (.ins _ _ _)=>True
 | some (.ext _)=>True
 | _=>False
section
variable {P:Program}{w:World}{H:Hp}{h h':Heap}{x e:Addr}{o':HO}
theorem HOk.write (ok:HOk P w H h) (mu:Mut (H x)) (he:e=x∨H e=some (.own x)) (k:∀b u,b≠e->h.get? b=some u->h'.get? b=some u) (heo:∃u,h'.get? e=some u)
  (new:aS P w (upd H x o') h' x o'):HOk P w (upd H x o') h':=fun b u q=>by
 have nown:∀c y,H c=some (.own y)->c≠x:=fun c y r z=>by subst z;rw[r] at mu;exact mu
 have ntup:∀c xs,H c=some (.tup xs)->c≠x:=fun c xs r z=>by subst z;rw[r] at mu;exact mu
 by_cases hb:b=x
 ·subst hb;rw[ag] at q;cases q;exact new
 ·rw[ap hb] at q
  by_cases hbe:b=e
  ·have q':H b=some (.own x):=by
    rcases he with z|z
    ·exact absurd (hbe.trans z) hb
    ·rw[hbe];exact z
   rw[q] at q';cases q'
   obtain⟨v,hv⟩:=heo
   exact⟨v,by rw[hbe];exact hv⟩
  ·refine(ok b u q).stay (fun c v hc r=>k c v ?_ r) (fun c r=>by rw[ap (nown c b r)];exact r) fun c xs r=>by rw[ap (ntup c xs r)];exact r
   rcases hc with rfl|hc
   ·exact hbe
   ·rintro rfl
    rcases he with z|z
    ·exact nown c b hc z
    ·rw[hc] at z;cases z;exact hb rfl
end
structure Un (fs ex:List Addr) (H H':Hp) (h h':Heap):Prop where
 keep:∀b o,h.get? b=some o->H b=none->b∉fs->b∉ex->h'.get? b=some o
 slot:∀b o,h.get? b=some o->H b=none->b∈fs->b∉ex->∃sl,h'.get? b=some { o with slots:=sl }
 free:∀b o,h.get? b=some o->H b=none->b∉ex->H' b=none
 there:∀b o,h.get? b=some o->b∉ex->∃o',h'.get? b=some o'
 tups:∀b xs,H b=some (.tup xs)->H' b=some (.tup xs)
 frzs:∀b o u,H b=some (.frz o u)->H' b=some (.frz o u)
 tbls:∀b ps,H b=some (.tbl ps)->∃more,H' b=some (.tbl (ps++more))
section
variable {fs fs' ex ex':List Addr}{H H1 H2:Hp}{h h1 h2 h':Heap}{a x e:Addr}{o:HO}
theorem Un.any (u:Un fs ex H H1 h h1) {b:Addr}{ob:Obj}(q:h.get? b=some ob) (n:H b=none) (hx:b∉ex):∃sl,h1.get? b=some { ob with slots:=sl }:=by
 by_cases hb:b∈fs
 ·exact u.slot b ob q n hb hx
 ·exact⟨ob.slots,u.keep b ob q n hb hx⟩
theorem Un.kept (k:∀b u,h.get? b=some u->h'.get? b=some u):Un fs ex H H h h':=
 ⟨fun b ob q _ _ _=>k b ob q,fun b ob q _ _ _=>⟨ob.slots,k b ob q⟩,fun _ _ _ n _=>n,fun b ob q _=>⟨ob,k b ob q⟩,fun _ _ q=>q,fun _ _ _ q=>q,fun _ ps q=>⟨#[],by rw[q];simp⟩⟩
theorem Un.refl:Un fs ex H H h h:=Un.kept fun _ _ q=>q
theorem Un.laid (k:∀b u,h.get? b=some u->h'.get? b=some u) (hp:h.objs.size≤a) (hn:H a=none):Un fs ex H (upd H a o) h h' where
 keep:=fun b u q _ _ _=>k b u q
 slot:=fun b u q _ _ _=>⟨u.slots,k b u q⟩
 free:=fun b u q n _=>by rw[ap (Nat.ne_of_lt (Nat.lt_of_lt_of_le (Heap.lt_size q) hp))];exact n
 there:=fun b u q _=>⟨u,k b u q⟩
 tups:=fun b xs q=>by rw[ap (au q hn)];exact q
 frzs:=fun b u xs q=>by rw[ap (au q hn)];exact q
 tbls:=fun b ps q=>⟨#[],by rw[ap (au q hn),q];simp⟩
theorem Un.write (mu:Mut (H x)) (he:e=x∨H e=some (.own x)) (k:∀b u,b≠e->h.get? b=some u->h'.get? b=some u) (heo:∃u,h'.get? e=some u):Un fs ex H (upd H x o) h h':=by
 have hx:∀b,H b=none->b≠x:=fun b n z=>by subst z;rw[n] at mu;exact mu
 have hb:∀b,H b=none->b≠e:=fun b n z=>by
  subst z
  rcases he with r|r
  ·exact hx b n r
  ·rw[n] at r;cases r
 have hm:∀b u,H b=some u->¬Mut (some u)->b≠x:=fun b u q nm z=>by subst z;rw[q] at mu;exact nm mu
 refine⟨fun b u q n _ _=>k b u (hb b n) q,fun b u q n _ _=>⟨u.slots,k b u (hb b n) q⟩,fun b u q n _=>by rw[ap (hx b n)];exact n,fun b u q _=>?_,
  fun b xs q=>by rw[ap (hm b _ q fun z=>z)];exact q,fun b u xs q=>by rw[ap (hm b _ q fun z=>z)];exact q,fun b ps q=>⟨#[],by rw[ap (hm b _ q fun z=>z),q];simp⟩⟩
 by_cases hbe:b=e
 ·subst hbe;exact heo
 ·exact⟨u,k b u hbe q⟩
end
def trk (h:Heap) (H:Hp):List Addr:=(List.range h.objs.size).filter fun a=>(H a).isSome
def hG (h:Heap) (H:Hp):Heap:=W.hideAll h (trk h H)
theorem uA (h:Heap) (H:Hp):(hG h H).objs.size=h.objs.size:=W.hideAll_size _ _
theorem wr {h:Heap}{H:Hp}{b:Addr}{o:Obj}(e:h.get? b=some o) (n:H b=none):(hG h H).get? b=some o:=
 W.hideAll_get _ e fun hm=>by
  have q:(H b).isSome=true:=(List.mem_filter.mp hm).2
  rw[n] at q;simp at q
theorem yJ {h:Heap}{H:Hp}{b:Addr}{o:Obj}(e:(hG h H).get? b=some o):h.get? b=some o∧H b=none:=by
 have e':h.get? b=some o:=W.of_hideAll (trk h H) e
 refine⟨e',?_⟩
 cases q:H b with
 | none=>rfl
 | some x=>
  have hm:b∈trk h H:=List.mem_filter.mpr ⟨List.mem_range.mpr (Heap.lt_size e'),by simp[q]⟩
  have z:(hG h H).get? b=none:=W.hideAll_none (trk h H) hm
  rw[z] at e;cases e
end L2
namespace L2
open PySem PySem.Spec PyProof.Rows
structure Mod (K:W.Frag) (mg:Str->Option Value) (base:Heap):Prop where
 kin:K.In base
 glob:base.Ns mainGlobals mg
 blt:∃mb,base.Ns builtinsNs mb∧∀x:Str,x≠"__name__"->mb x=bootBuiltins x
 nolimit:base.NoLimit
structure Cx where
 prog:Program
 w:World
 K:W.Frag
 mg:Str->Option Value
 base:Heap
 A:Around
 N:List Str
 s₀:Shared
 H₀:Hp
 env:Env
 outer:List Env
 stack:List Env
 ex:List Addr
 fn:Str->Bool
 calm:Bool
 pn:List (Addr×Obj)
 xe:Value->Shared->Prop
def frs (l:List Env):List Addr:=l.filterMap (·.frame)
abbrev Cx.fs (X:Cx):List Addr:=frs X.outer
def Vis (sc:Scope) (x:Str):Prop:=sc.names.lookup x=some .local ∨sc.names.lookup x=some .cell∨sc.names.lookup x=some .free
def Loc (sc:Scope) (x:Str):Prop:=sc.names.lookup x=some .local ∨sc.names.lookup x=some .cell
def Ak (env:Env) (h:Heap) (m:Str->Option Value) (x:Str) (u:Value):Prop:=
 (env.kindOf x=some .local ∧m x=some u)∨((env.kindOf x=some .cell∨env.kindOf x=some .free)∧∃c,env.cells.lookup x=some c∧h.IsCell c (some u))
structure Cx.Ok (X:Cx):Prop where
 mod:Mod X.K X.mg X.base
 kind:X.env.scope.kind=.function
 glob:X.env.globals=mainGlobals
 blt:X.env.builtins=builtinsNs
 above:X.s₀.heap.objs.size≤X.env.locals
 inj:∀x y c,X.env.cells.lookup x=some c->X.env.cells.lookup y=some c->x=y
 has:∀x,(X.env.kindOf x=some .cell∨X.env.kindOf x=some .free)->∃c,X.env.cells.lookup x=some c
 cab:∀x c,X.fn x=true->X.env.cells.lookup x=some c->X.s₀.heap.objs.size≤c
 hd:X.calm=true->X.A.handled=none
 frames:X.A.frames=some X.stack
 stk:X.stack=X.outer∨(X.stack=X.env::X.outer∧X.env.frame=some X.env.locals)
 exf:∀b∈X.ex,b≠X.env.locals∧∀x c,X.env.cells.lookup x=some c->c≠b
 bs:∀b o,X.base.get? b=some o->X.s₀.heap.get? b=some o∧X.H₀ b=none
 bsz:X.base.objs.size≤X.s₀.heap.objs.size
 noex:∀b o,X.base.get? b=some o->b∉X.ex
 exfs:∀b∈X.ex,b∉X.fs
 funs:X.s₀.heap.FunFrames X.base X.outer
 frf:∀b∈X.fs,X.H₀ b=none
structure Inv (X:Cx) (aa:List (Addr×Obj)) (σ:List (Option V)) (H:Hp) (s:Shared):Prop where
 ok:X.Ok
 os:s.os=X.s₀.os
 bare:AllBare s.gens
 base:Un X.fs X.ex X.H₀ H X.s₀.heap s.heap
 loc:∃m,s.heap.Ns X.env.locals m∧∀(i:Nat) (x:Str) (v:V),X.N[i]?=some x->σ[i]?=some (some v)->Vis X.env.scope x->∃u,az v u∧Ak X.env s.heap m x u
 cell:∀x c,X.env.cells.lookup x=some c->∃v,s.heap.IsCell c v
 free:H X.env.locals=none
 freeC:∀x c,X.env.cells.lookup x=some c->H c=none
 pin:∀p∈X.pn++aa,s.heap.get? p.1=some p.2∧H p.1=none∧p.1≠X.env.locals∧p.1∉X.fs∧∀v,p.2.data≠.cell v
 hok:HOk X.prog X.w H s.heap
 len:σ.length=X.N.length
section
variable {X:Cx}{aa:List (Addr×Obj)}{σ:List (Option V)}{H H':Hp}{s:Shared}{h':Heap}
theorem Cx.Ok.nofr (ok:X.Ok) {b:Addr}{o:Obj}(e:X.base.get? b=some o):b∉X.fs:=fun hb=>by
 have:=(ok.funs.mem hb).1
 rw[e] at this;cases this
theorem Inv.bs (I:Inv X aa σ H s):∀b o,X.base.get? b=some o->s.heap.get? b=some o∧H b=none:=fun b o e=>
 ⟨I.base.keep b o (I.ok.bs b o e).1 (I.ok.bs b o e).2 (I.ok.nofr e) (I.ok.noex b o e),I.base.free b o (I.ok.bs b o e).1 (I.ok.bs b o e).2 (I.ok.noex b o e)⟩
theorem Inv.bk (I:Inv X aa σ H s):∀b o,X.base.get? b=some o->s.heap.get? b=some o:=fun b o e=>(I.bs b o e).1
theorem Inv.mod (I:Inv X aa σ H s):Mod X.K X.mg X.base:=I.ok.mod
theorem Inv.kIn (I:Inv X aa σ H s):X.K.In s.heap:=I.ok.mod.kin.keeps I.bk
theorem Inv.lt (I:Inv X aa σ H s):X.env.locals<s.heap.objs.size:=let ⟨_,hn,_⟩:=I.loc;hn.lt
theorem Inv.sz (I:Inv X aa σ H s):X.s₀.heap.objs.size≤s.heap.objs.size:=Nat.le_trans I.ok.above (Nat.le_of_lt I.lt)
theorem Inv.nofs (I:Inv X aa σ H s) {a:Addr}(h:s.heap.objs.size≤a):a∉X.fs:=fun hb=>by
 obtain⟨_,o,ho,_⟩:=I.ok.funs.mem hb
 exact absurd (Nat.lt_of_lt_of_le (Heap.lt_size ho) (Nat.le_trans I.sz h)) (Nat.lt_irrefl _)
theorem Inv.cne (I:Inv X aa σ H s):∀x c,X.env.cells.lookup x=some c->c≠X.env.locals:=fun x c e z=>by
 obtain⟨v,o,ho,hd⟩:=I.cell x c e
 obtain⟨m,⟨o',es,ep,ho',hd',_⟩,_⟩:=I.loc
 rw[z,ho'] at ho;cases ho;rw[hd'] at hd;cases hd
theorem Inv.funs (I:Inv X aa σ H s):s.heap.FunFrames X.base X.outer:=by
 have all:∀(l:List Env),(∀b∈frs l,b∈X.fs)->X.s₀.heap.FunFrames X.base l->s.heap.FunFrames X.base l:=by
  intro l
  induction l with
  | nil=>intro _ _;trivial
  | cons env r ih=>
   intro hs hl
   obtain⟨hk,⟨L,o,hf,hn,ho,hd⟩,hr⟩:=hl
   have hL:L∈X.fs:=hs L (by unfold frs;rw[List.filterMap_cons,hf];exact List.mem_cons_self)
   obtain⟨sl,e⟩:=I.base.slot L o ho (I.ok.frf L hL) hL fun z=>I.ok.exfs L z hL
   exact⟨hk,⟨L,_,hf,hn,e,hd⟩,ih (fun b hb=>hs b (by unfold frs;rw[List.filterMap_cons,hf];exact List.mem_cons_of_mem _ hb)) hr⟩
 exact all X.outer (fun _ hb=>hb) I.ok.funs
theorem Inv.stack (I:Inv X aa σ H s):s.heap.FunFrames X.base X.stack:=by
 rcases I.ok.stk with e|⟨e,hf⟩
 ·rw[e];exact I.funs
 ·rw[e]
  obtain⟨m,hn,_⟩:=I.loc
  refine .cons (by rw[I.ok.kind];decide) hf hn ?_ I.funs
  exact Heap.get?_none_of_le (Nat.le_trans I.ok.bsz I.ok.above)
theorem Inv.stkSub (I:Inv X aa σ H s):∀b∈frs X.stack,b∈X.env.locals::X.fs:=fun b hb=>by
 rcases I.ok.stk with e|⟨e,hf⟩
 ·rw[e] at hb;exact List.mem_cons_of_mem _ hb
 ·rw[e] at hb
  unfold frs at hb
  rw[List.filterMap_cons,hf] at hb
  exact hb
theorem Inv.stkFree (I:Inv X aa σ H s):∀b∈frs X.stack,H b=none:=fun b hb=>by
 rcases List.mem_cons.mp (I.stkSub b hb) with e|hb
 ·rw[e];exact I.free
 ·obtain⟨_,o,ho,_⟩:=I.ok.funs.mem hb
  exact I.base.free b o ho (I.ok.frf b hb) fun z=>I.ok.exfs b z hb
theorem Inv.step {g':Array GenState}{t':Nat}{d':Drawn}{ch:List Addr}(I:Inv X aa σ H s)
  (hch:∀b∈ch,(b∈X.ex∨X.s₀.heap.objs.size≤b)∧b≠X.env.locals∧(∀x c,X.env.cells.lookup x=some c->c≠b)∧∀p∈X.pn++aa,p.1≠b)
  (keep:∀b o,b≠X.env.locals->b∉X.fs->b∉ch->s.heap.get? b=some o->H b=none->h'.get? b=some o)
  (slot:∀b o,b≠X.env.locals->b∈X.fs->b∉ch->s.heap.get? b=some o->H b=none->∃sl,h'.get? b=some { o with slots:=sl }) (free:∀b o,b∉ch->s.heap.get? b=some o->H b=none->H' b=none)
  (there:∀b o,b∉ch->s.heap.get? b=some o->∃o',h'.get? b=some o')
  (tups:∀b xs,H b=some (.tup xs)->H' b=some (.tup xs)) (frzs:∀b o u,H b=some (.frz o u)->H' b=some (.frz o u)) (tbls:∀b ps,H b=some (.tbl ps)->∃more,H' b=some (.tbl (ps++more)))
  (ns:∀m,s.heap.Ns X.env.locals m->h'.Ns X.env.locals m) (hok:HOk X.prog X.w H' h') (hg:AllBare g') :
  Inv X aa σ H' { s with heap:=h',gens:=g',drawn:=d',toks:=t' }:=by
 have neL:∀b o,X.s₀.heap.get? b=some o->b≠X.env.locals:=fun b o e=>Nat.ne_of_lt (Nat.lt_of_lt_of_le (Heap.lt_size e) I.ok.above)
 have neC:∀b o,X.s₀.heap.get? b=some o->b∉X.ex->b∉ch:=fun b o e hx hb=>by
  rcases(hch b hb).1 with z|z
  ·exact hx z
  ·exact absurd (Nat.lt_of_lt_of_le (Heap.lt_size e) z) (Nat.lt_irrefl _)
 have cellK:∀x c,X.env.cells.lookup x=some c->∀v,s.heap.IsCell c v->h'.IsCell c v:=fun x c e v ⟨o,ho,hd⟩=>by
  have nch:c∉ch:=fun z=>(hch c z).2.2.1 x c e rfl
  by_cases hc:c∈X.fs
  ·obtain⟨sl,q⟩:=slot c o (I.cne x c e) hc nch ho (I.freeC x c e)
   exact⟨_,q,hd⟩
  ·exact⟨o,keep c o (I.cne x c e) hc nch ho (I.freeC x c e),hd⟩
 refine⟨I.ok,I.os,hg,⟨fun b o e n hb hx=>?_,fun b o e n hb hx=>?_,fun b o e n hx=>?_,fun b o e hx=>?_,fun b xs e=>tups b xs (I.base.tups b xs e),fun b o xs e=>frzs b o xs (I.base.frzs b o xs e),fun b ps e=>?_⟩,?_,fun x c e=>?_,?_,fun x c e=>?_,fun p hp=>?_,hok,I.len⟩
 ·exact keep b o (neL b o e) hb (neC b o e hx) (I.base.keep b o e n hb hx) (I.base.free b o e n hx)
 ·obtain⟨sl,e1⟩:=I.base.slot b o e n hb hx
  obtain⟨sl',e2⟩:=slot b _ (neL b o e) hb (neC b o e hx) e1 (I.base.free b o e n hx)
  exact⟨sl',e2⟩
 ·obtain⟨o',e1⟩:=I.base.there b o e hx
  exact free b o' (neC b o e hx) e1 (I.base.free b o e n hx)
 ·obtain⟨o',e1⟩:=I.base.there b o e hx
  exact there b o' (neC b o e hx) e1
 ·obtain⟨m1,e1⟩:=I.base.tbls b ps e
  obtain⟨m2,e2⟩:=tbls b _ e1
  exact⟨m1++m2,by rw[e2,Array.append_assoc]⟩
 ·obtain⟨m,hn,hl⟩:=I.loc
  refine⟨m,ns m hn,fun i x v e1 e2 e3=>?_⟩
  obtain⟨u,r,l⟩:=hl i x v e1 e2 e3
  refine⟨u,r,?_⟩
  rcases l with l|⟨k,c,e,z⟩
  ·exact .inl l
  ·exact .inr ⟨k,c,e,cellK x c e _ z⟩
 ·obtain⟨v,z⟩:=I.cell x c e
  exact⟨v,cellK x c e v z⟩
 ·obtain⟨m,⟨o,_,_,ho,_⟩,_⟩:=I.loc
  exact free _ o (fun z=>(hch _ z).2.1 rfl) ho I.free
 ·obtain⟨v,o,ho,hd⟩:=I.cell x c e
  exact free c o (fun z=>(hch c z).2.2.1 x c e rfl) ho (I.freeC x c e)
 ·obtain⟨e,n,ne,nf,d⟩:=I.pin p hp
  have nch:p.1∉ch:=fun z=>(hch p.1 z).2.2.2 p hp rfl
  exact⟨keep p.1 p.2 ne nf nch e n,free p.1 p.2 nch e n,ne,nf,d⟩
theorem Inv.un {t':Nat}(I:Inv X aa σ H s) (u:Un X.fs [] H H' s.heap h') (hok:HOk X.prog X.w H' h'):Inv X aa σ H' { s with heap:=h',toks:=t' }:=by
 obtain⟨m,⟨o,es,ep,ho,r⟩,_⟩:=id I.loc
 obtain⟨sl,hL⟩:=u.any ho I.free (by simp)
 exact I.step (g':=s.gens) (d':=s.drawn) (ch:=[]) (fun _ z=>nomatch z) (fun b o _ hb _ e n=>u.keep b o e n hb (by simp)) (fun b o _ hb _ e n=>u.slot b o e n hb (by simp)) (fun b o _ e n=>u.free b o e n (by simp)) (fun b o _ e=>u.there b o e (by simp)) u.tups u.frzs u.tbls (fun m' hm=>by
  obtain⟨o',es',ep',ho',r'⟩:=hm
  rw[ho] at ho';cases ho'
  exact⟨_,es',ep',hL,r'⟩) hok I.bare
theorem Inv.call {g':Array GenState}{t':Nat}{d':Drawn}{ch:List Addr}(I:Inv X aa σ H s) (u:Un (frs X.stack) ch H H' s.heap h') (hok:HOk X.prog X.w H' h') (hg:AllBare g')
  (hch:∀b∈ch,(b∈X.ex∨X.s₀.heap.objs.size≤b)∧b≠X.env.locals∧(∀x c,X.env.cells.lookup x=some c->c≠b)∧∀p∈X.pn++aa,p.1≠b) :
  Inv X aa σ H' { s with heap:=h',gens:=g',drawn:=d',toks:=t' }:=by
 obtain⟨m,⟨o,es,ep,ho,r⟩,_⟩:=id I.loc
 obtain⟨sl,hL⟩:=u.any ho I.free fun z=>(hch _ z).2.1 rfl
 exact I.step (ch:=ch) hch (fun b o hL hb hc e n=>u.keep b o e n (fun z=>(List.mem_cons.mp (I.stkSub b z)).elim hL hb) hc) (fun b o _ _ hc e n=>u.any e n hc) (fun b o hc e n=>u.free b o e n hc) (fun b o hc e=>u.there b o e hc) u.tups u.frzs u.tbls (fun m' hm=>by
  obtain⟨o',es',ep',ho',r'⟩:=hm
  rw[ho] at ho';cases ho'
  exact⟨_,es',ep',hL,r'⟩) hok hg
theorem Inv.turned {t':Nat}{it:Addr}(I:Inv X aa σ H s) (k:∀b o,b≠it->s.heap.get? b=some o->h'.get? b=some o) (hn:H it=none) (hL:it≠X.env.locals)
  (h1:it∈X.ex∨X.s₀.heap.objs.size≤it) (h2:∀x c,X.env.cells.lookup x=some c->c≠it) (h3:∀p∈X.pn++aa,p.1≠it):Inv X aa σ H { s with heap:=h',toks:=t' }:=by
 have nit:∀b u,H b=some u->b≠it:=fun b u e z=>by rw[z,hn] at e;cases e
 refine I.step (g':=s.gens) (d':=s.drawn) (ch:=[it]) (fun b hb=>?_) (fun b o _ _ hc e _=>k b o (fun z=>hc (by simp[z])) e) (fun b o _ _ hc e _=>⟨o.slots,k b o (fun z=>hc (by simp[z])) e⟩) (fun _ _ _ _ n=>n)
  (fun b o hc e=>⟨o,k b o (fun z=>hc (by simp[z])) e⟩) (fun _ _ e=>e) (fun _ _ _ e=>e) (fun b ps e=>⟨#[],by rw[e];simp⟩) (fun m hm=>?_) (fun b u e=>?_) I.bare
 ·have e:b=it:=by simpa using hb
  subst e
  exact⟨h1,hL,h2,h3⟩
 ·obtain⟨o,es,ep,ho,r⟩:=hm
  exact⟨o,es,ep,k _ o (Ne.symm hL) ho,r⟩
 ·refine(I.hok b u e).stay (fun c v hc q=>k c v ?_ q) (fun _ q=>q) fun _ _ q=>q
  rcases hc with z|z
  ·rw[z];exact nit b u e
  ·exact nit c _ z
theorem Inv.tok (I:Inv X aa σ H s) (t:Nat):Inv X aa σ H { s with toks:=t }:=I.un (h':=s.heap) (t':=t) Un.refl I.hok
theorem Inv.kept {t':Nat}(I:Inv X aa σ H s) (k:∀b u,s.heap.get? b=some u->h'.get? b=some u):Inv X aa σ H { s with heap:=h',toks:=t' }:=I.un (Un.kept k) (I.hok.kept k)
theorem Inv.laid {a:Addr}{o:HO}{t':Nat}(I:Inv X aa σ H s) (k:∀b u,s.heap.get? b=some u->h'.get? b=some u) (hp:s.heap.objs.size≤a) (new:aS X.prog X.w (upd H a o) h' a o) :
  Inv X aa σ (upd H a o) { s with heap:=h',toks:=t' }:=I.un (Un.laid k hp (I.hok.fresh hp)) (I.hok.laid k hp new)
theorem Inv.write {x e:Addr}{o:HO}{t':Nat}(I:Inv X aa σ H s) (mu:Mut (H x)) (he:e=x∨H e=some (.own x)) (k:∀b u,b≠e->s.heap.get? b=some u->h'.get? b=some u) (heo:∃u,h'.get? e=some u)
  (new:aS X.prog X.w (upd H x o) h' x o):Inv X aa σ (upd H x o) { s with heap:=h',toks:=t' }:=I.un (Un.write mu he k heo) (I.hok.write mu he k heo new)
theorem Inv.pins_of {pins':List (Addr×Obj)}(I:Inv X aa σ H s) (h:∀p∈pins',s.heap.get? p.1=some p.2∧H p.1=none∧p.1≠X.env.locals∧p.1∉X.fs∧∀v,p.2.data≠.cell v):Inv X pins' σ H s:=
 ⟨I.ok,I.os,I.bare,I.base,I.loc,I.cell,I.free,I.freeC,fun p hp=>(List.mem_append.mp hp).elim (fun z=>I.pin p (List.mem_append_left _ z)) (h p),I.hok,I.len⟩
theorem jX {N:List Str}(hN:N.Nodup) {i j:Nat}{x:Str}(a:N[i]?=some x) (b:N[j]?=some x):i=j:=by
 obtain⟨h1,e1⟩:=List.getElem?_eq_some_iff.mp a
 obtain⟨h2,e2⟩:=List.getElem?_eq_some_iff.mp b
 exact(List.getElem_inj hN).mp (e1.trans e2.symm)
theorem iO {M:Model}{A:Around}{E:Value->Shared->Prop}{i:Nat}{x:Str}{v:V}{u:Value}{Q:Unit->Shared->Prop}(I:Inv X aa σ H s) (hN:X.N.Nodup) (hi:X.N[i]?=some x) (hx:Loc X.env.scope x) (r:az v u)
  (h:∀s',Inv X aa (σ.set i (some v)) H s'->(∃a,Heap.SameBut a s.heap s'.heap∧(a=X.env.locals∨X.env.cells.lookup x=some a))->Q () s') (hf:X.fn x=true∨X.env.scope.names.lookup x=some .local :=by first|exact .inl rfl|exact .inr rfl|assumption):wpAny M A (storeName X.env x u) Q E s:=by
 obtain⟨m,hn,hl⟩:=id I.loc
 have hcls:(X.env.scope.kind==.class ||(X.env.scope.kind==.module&&X.env.locals != X.env.globals))=false:=by rw[I.ok.kind];rfl
 have hiσ:i<σ.length:=by rw[I.len];exact(List.getElem?_eq_some_iff.mp hi).1
 have cne:=I.cne
 have tracked:∀{a:Addr}{h':Heap},(∃o,s.heap.get? a=some o∧H a=none)->Heap.SameBut a s.heap h'->HOk X.prog X.w H h':=fun {a h'} ha hs b ob e=>by
  obtain⟨_,_,hfree⟩:=ha
  refine(I.hok b ob e).stay (fun c w' hc q=>(hs.2 c ?_).trans q) (fun _ q=>q) fun _ _ q=>q
  rintro rfl
  rcases hc with rfl|hc
  ·rw[hfree] at e;cases e
  ·rw[hfree] at hc;cases hc
 rcases hx with hk|hk
 ·refine wpAny_storeName_local hk hn (fun h' hn' hs=>?_) hcls
  obtain⟨oL,_,_,hoL,_⟩:=id hn
  refine h _ ⟨I.ok,I.os,I.bare,⟨fun b o e n hb hx=>?_,fun b o e n hb hx=>?_,I.base.free,fun b o e hx=>?_,I.base.tups,I.base.frzs,I.base.tbls⟩,⟨_,hn',fun j y v' e1 e2 e3=>?_⟩,fun y c e=>?_,I.free,I.freeC,fun p hp=>?_,tracked ⟨oL,hoL,I.free⟩ hs,by simpa using I.len⟩ ⟨_,hs,.inl rfl⟩
  ·exact(hs.2 b (Nat.ne_of_lt (Nat.lt_of_lt_of_le (Heap.lt_size e) I.ok.above))).trans (I.base.keep b o e n hb hx)
  ·obtain⟨sl,e1⟩:=I.base.slot b o e n hb hx
   exact⟨sl,(hs.2 b (Nat.ne_of_lt (Nat.lt_of_lt_of_le (Heap.lt_size e) I.ok.above))).trans e1⟩
  ·obtain⟨o',e1⟩:=I.base.there b o e hx
   exact⟨o',(hs.2 b (Nat.ne_of_lt (Nat.lt_of_lt_of_le (Heap.lt_size e) I.ok.above))).trans e1⟩
  ·by_cases hj:j=i
   ·subst hj
    rw[hi] at e1;cases e1
    rw[List.getElem?_set_self hiσ] at e2
    cases e2
    exact⟨u,r,.inl ⟨hk,by simp⟩⟩
   ·rw[List.getElem?_set_ne (Ne.symm hj)] at e2
    obtain⟨u',r',q⟩:=hl j y v' e1 e2 e3
    refine⟨u',r',?_⟩
    rcases q with⟨k,e⟩|⟨k,c,e,z⟩
    ·refine .inl ⟨k,?_⟩
     have:y≠x:=fun e=>hj (jX hN e1 (e▸hi))
     simp[this,e]
    ·exact .inr ⟨k,c,e,z.sameBut hs (cne y c e)⟩
  ·obtain⟨w',z⟩:=I.cell y c e
   exact⟨w',z.sameBut hs (cne y c e)⟩
  ·obtain⟨e,n,ne,nf,d⟩:=I.pin p hp
   exact⟨(hs.2 p.1 ne).trans e,n,ne,nf,d⟩
 ·have hfn:X.fn x=true:=by
   rcases hf with z|z
   ·exact z
   ·rw[z] at hk;cases hk
  obtain⟨c,hc⟩:=I.ok.has x (.inl hk)
  obtain⟨w',z⟩:=I.cell x c hc
  refine wpAny_storeName_cell I.ok.kind hk hc z (fun h' hc' hs=>?_)
  obtain⟨oc,hoc,hocd⟩:=id z
  refine h { s with heap:=h' } ⟨I.ok,I.os,I.bare,⟨fun b o e n hb hx=>?_,fun b o e n hb hx=>?_,I.base.free,fun b o e hx=>?_,I.base.tups,I.base.frzs,I.base.tbls⟩,⟨m,hn.sameBut hs (Ne.symm (cne x c hc)),fun j y v' e1 e2 e3=>?_⟩,fun y c' e=>?_,I.free,I.freeC,fun p hp=>?_,tracked ⟨oc,hoc,I.freeC x c hc⟩ hs,by simpa using I.len⟩ ⟨c,hs,.inr hc⟩
  ·exact(hs.2 b (Nat.ne_of_lt (Nat.lt_of_lt_of_le (Heap.lt_size e) (I.ok.cab x c hfn hc)))).trans (I.base.keep b o e n hb hx)
  ·obtain⟨sl,e1⟩:=I.base.slot b o e n hb hx
   exact⟨sl,(hs.2 b (Nat.ne_of_lt (Nat.lt_of_lt_of_le (Heap.lt_size e) (I.ok.cab x c hfn hc)))).trans e1⟩
  ·obtain⟨o',e1⟩:=I.base.there b o e hx
   exact⟨o',(hs.2 b (Nat.ne_of_lt (Nat.lt_of_lt_of_le (Heap.lt_size e) (I.ok.cab x c hfn hc)))).trans e1⟩
  ·by_cases hj:j=i
   ·subst hj
    rw[hi] at e1;cases e1
    rw[List.getElem?_set_self hiσ] at e2
    cases e2
    exact⟨u,r,.inr ⟨.inl hk,c,hc,hc'⟩⟩
   ·rw[List.getElem?_set_ne (Ne.symm hj)] at e2
    obtain⟨u',r',q⟩:=hl j y v' e1 e2 e3
    refine⟨u',r',?_⟩
    rcases q with q|⟨k,c',e,z'⟩
    ·exact .inl q
    ·refine .inr ⟨k,c',e,z'.sameBut hs ?_⟩
     rintro rfl
     exact hj (jX hN e1 (I.ok.inj _ _ _ e hc▸hi))
  ·by_cases hcc:c'=c
   ·subst hcc;exact⟨_,hc'⟩
   ·obtain⟨w2,z2⟩:=I.cell y c' e
    exact⟨w2,z2.sameBut hs hcc⟩
  ·obtain⟨e,n,ne,nf,d⟩:=I.pin p hp
   refine⟨(hs.2 p.1 ?_).trans e,n,ne,nf,d⟩
   intro q
   rw[q,hoc] at e
   have q':oc=p.2:=Option.some.inj e
   exact d w' (by rw[←q'];exact hocd)
theorem dY {M:Model}{A:Around}{E:Value->Shared->Prop}{i:Nat}{x:Str}{v:V}{u:Value}{Q:Unit->Shared->Prop}(I:Inv X aa σ H s) (hN:X.N.Nodup) (hi:X.N[i]?=some x) (hx:Loc X.env.scope x) (r:az v u)
  (h:∀s',Inv X aa (σ.set i (some v)) H s'->Q () s') (hf:X.fn x=true∨X.env.scope.names.lookup x=some .local :=by first|exact .inl rfl|exact .inr rfl|assumption):wpAny M A (storeName X.env x u) Q E s:=
 iO I hN hi hx r (fun s' I' _=>h s' I') hf
theorem Inv.call' {s':Shared}{ch:List Addr}(I:Inv X aa σ H s) (ho:s'.os=s.os) (u:Un (frs X.stack) ch H H' s.heap s'.heap) (hok:HOk X.prog X.w H' s'.heap) (hg:AllBare s'.gens)
  (hch:∀b∈ch,(b∈X.ex∨X.s₀.heap.objs.size≤b)∧b≠X.env.locals∧(∀x c,X.env.cells.lookup x=some c->c≠b)∧∀p∈X.pn++aa,p.1≠b):Inv X aa σ H' s':=by
 obtain⟨h',g',d',t',o'⟩:=s'
 have e:o'=s.os:=ho
 subst e
 exact I.call (g':=g') (t':=t') (d':=d') u hok hg hch
end
abbrev XK:=Value->Option Addr->Hp->Prop
abbrev St:=List (Option V)
abbrev VK:=V->Hp->Prop
abbrev TE:=St->Hp->VK->Prop
abbrev TT:=St->Hp->(Bool->Hp->Prop)->Prop
abbrev TA:=St->Hp->(List V->Hp->Prop)->Prop
structure Ends where
 nx:St->Hp->Prop
 rt:VK
 bk:St->Hp->Prop:=fun _ _=>False
 ct:St->Hp->Prop:=fun _ _=>False
abbrev TS:=Ends->St->Hp->Prop
def EP (X:Cx) (aa:List (Addr×Obj)) (σ:St) (Q:VK) (u:Value) (s':Shared):Prop:=∃v H',Inv X aa σ H' s'∧az v u∧Q v H'
def TP (X:Cx) (aa:List (Addr×Obj)) (σ:St) (Q:Bool->Hp->Prop) (b:Bool) (s':Shared):Prop:=∃H',Inv X aa σ H' s'∧Q b H'
def AP (X:Cx) (aa:List (Addr×Obj)) (σ:St) (Q:List V->Hp->Prop) (us:List Value) (s':Shared):Prop:=∃vs H',Inv X aa σ H' s'∧av vs us∧Q vs H'
def SP (X:Cx) (aa:List (Addr×Obj)) (D:Ends) (f:Flow) (s':Shared):Prop:=
 match f with
 | .next=>∃σ' H',Inv X aa σ' H' s'∧D.nx σ' H'
 | .brk=>∃σ' H',Inv X aa σ' H' s'∧D.bk σ' H'
 | .cont=>∃σ' H',Inv X aa σ' H' s'∧D.ct σ' H'
 | .ret u=>∃v σ' H',Inv X aa σ' H' s'∧az v u∧D.rt v H'
def PE (X:Cx) (e:Expr) (t:TE):Prop:=
 ∀(aa:List (Addr×Obj)) (s:Shared) (σ:St) (H:Hp) (Q:VK),Inv X aa σ H s->t σ H Q->wpAny (model X.prog X.w) X.A (eval e X.env) (EP X aa σ Q) X.xe s
def PT (X:Cx) (e:Expr) (t:TT):Prop:=
 ∀(aa:List (Addr×Obj)) (s:Shared) (σ:St) (H:Hp) (Q:Bool->Hp->Prop),Inv X aa σ H s->t σ H Q->wpAny (model X.prog X.w) X.A (isTrue e X.env (eval e X.env)) (TP X aa σ Q) X.xe s
def PW (X:Cx) (e:Expr) (t:TT):Prop:=
 ∀(whole:Sem Value) (aa:List (Addr×Obj)) (s:Shared) (σ:St) (H:Hp) (Q:Bool->Hp->Prop),Inv X aa σ H s->t σ H Q->wpAny (model X.prog X.w) X.A (isTrue e X.env whole) (TP X aa σ Q) X.xe s
theorem PW.pt {X:Cx}{e:Expr}{t:TT}(h:PW X e t):PT X e t:=h _
def PA (X:Cx) (es:List Expr) (t:TA):Prop:=
 ∀(pos:Pos) (aa:List (Addr×Obj)) (s:Shared) (σ:St) (H:Hp) (Q:List V->Hp->Prop),Inv X aa σ H s->t σ H Q->wpAny (model X.prog X.w) X.A (spliced (backTo pos (starEach es X.env))) (AP X aa σ Q) X.xe s
def PS (X:Cx) (st:Stmt) (t:TS):Prop:=
 ∀(aa:List (Addr×Obj)) (s:Shared) (σ:St) (H:Hp) (D:Ends),Inv X aa σ H s->t D σ H->wpAny (model X.prog X.w) X.A (exec st X.env) (SP X aa D) X.xe s
def PSs (X:Cx) (st:List Stmt) (t:TS):Prop:=
 ∀(aa:List (Addr×Obj)) (s:Shared) (σ:St) (H:Hp) (D:Ends),Inv X aa σ H s->t D σ H->wpAny (model X.prog X.w) X.A (execs st X.env) (SP X aa D) X.xe s
theorem thn {α:Type}{t:Sem α}{Q Q':α->Shared->Prop}{M:Model}{A:Around}{E:Value->Shared->Prop}{s:Shared}(h:wpAny M A t Q E s) (hQ:∀a s,Q a s->Q' a s):wpAny M A t Q' E s:=wpAny_mono h hQ fun _ _ x=>x
end L2
namespace L2
open PySem PySem.Spec PyProof.Rows
section
variable {X:Cx}
def ox (i:Nat):TE:=fun σ H Q=>∃v,σ[i]?=some (some v)∧Q v H
def tC (v:V):TE:=fun _ H Q=>Q v H
theorem Al {i:Nat}{x:Str}{pos:Pos}(hN:X.N[i]?=some x) (hv:Vis X.env.scope x) (hd:(x==("__debug__":Str))=false:=by decide) (hcd:(x==("__classdict__":Str))=false:=by decide):PE X (.Name x pos) (ox i):=by
 intro aa s σ H Q I h
 obtain⟨v,e,h⟩:=h
 obtain⟨m,hn,hl⟩:=I.loc
 obtain⟨u,r,l⟩:=hl i x v hN e hv
 have fin:EP X aa σ Q u s:=⟨v,H,I,r,h⟩
 rcases l with⟨hk,hm⟩|⟨hk,c,hc,hcell⟩
 ·exact wpAny_Name (wpAny_loadName_local I.ok.kind hk hn hm fin) hd
 ·rcases hk with hk|hk
  ·exact wpAny_Name (wpAny_loadName_cell I.ok.kind hk hc hcell fin) hd
  ·exact wpAny_Name (wpAny_loadName_free I.ok.kind hk hc hcell fin hcd) hd
theorem ao {i j pos}:PE X (.Constant (.int i) j pos) (tC (.int i)):=fun _ _ _ H _ I h=>wpAny_Constant_int ⟨.int i,H,I.tok _,⟨_,rfl⟩,h⟩
theorem kz {b j pos}:PE X (.Constant (.bool b) j pos) (tC (.bl b)):=fun _ _ _ H _ I h=>Constant_bool ⟨.bl b,H,I,rfl,h⟩
theorem cz {j pos}:PE X (.Constant .none j pos) (tC .non):=fun _ _ _ H _ I h=>Constant_none ⟨.non,H,I,rfl,h⟩
theorem aE {x j pos}:PE X (.Constant (.str x) j pos) (tC (.str x)):=fun _ _ _ H _ I h=>Calls.Constant_str ⟨.str x,H,I.tok _,⟨_,rfl⟩,h⟩
def Gl (X:Cx) (x:Str):Prop:=X.env.kindOf x=some .globalImplicit
theorem eU {E:Value->Shared->Prop}{aa:List (Addr×Obj)}{s:Shared}{σ:St}{H:Hp}{x:Str}{u:Value}{pos:Pos}{Q:Value->Shared->Prop}(I:Inv X aa σ H s) (hg:Gl X x) (hm:X.mg x=some u) (h:Q u s)
  (hd:(x==("__debug__":Str))=false:=by decide):wpAny (model X.prog X.w) X.A (eval (.Name x pos) X.env) Q E s:=
 Calls.Name_function_global I.ok.kind hg (Calls.loadGlobal_global (by rw[I.ok.glob];exact I.mod.glob.keeps I.bk) hm h) hd
theorem kA {E:Value->Shared->Prop}{aa:List (Addr×Obj)}{s:Shared}{σ:St}{H:Hp}{x:Str}{u:Value}{pos:Pos}{Q:Value->Shared->Prop}(I:Inv X aa σ H s) (hg:Gl X x) (hm:X.mg x=none) (hv:bootBuiltins x=some u) (h:Q u s)
  (hn:x≠"__name__":=by decide) (hd:(x==("__debug__":Str))=false:=by decide):wpAny (model X.prog X.w) X.A (eval (.Name x pos) X.env) Q E s:=by
 obtain⟨mb,h1,h2⟩:=I.mod.blt
 exact Calls.Name_function_global I.ok.kind hg (Calls.loadGlobal_builtin (by rw[I.ok.glob];exact I.mod.glob.keeps I.bk) hm (by rw[I.ok.blt];exact h1.keeps I.bk) ((h2 x hn).trans hv) h) hd
theorem bj {x:Str}{v:V}{u:Value}{pos:Pos}(hg:Gl X x) (hm:X.mg x=some u) (r:az v u) (hd:(x==("__debug__":Str))=false:=by decide):PE X (.Name x pos) (tC v):=
 fun _ _ _ H _ I h=>eU I hg hm ⟨v,H,I,r,h⟩ hd
theorem eA {x:Str}{v:V}{u:Value}{pos:Pos}(hg:Gl X x) (hm:X.mg x=none) (hv:bootBuiltins x=some u) (r:az v u) (hn:x≠"__name__":=by decide) (hd:(x==("__debug__":Str))=false:=by decide):PE X (.Name x pos) (tC v):=
 fun _ _ _ H _ I h=>kA I hg hm hv ⟨v,H,I,r,h⟩ hn hd
variable {a b:Expr}{ta tb:TE}{pos:Pos}
def PC (X:Cx) (op:CmpOp) (a b:Expr) (t:TE):Prop:=
 ∀(aa:List (Addr×Obj)) (s:Shared) (σ:St) (H:Hp) (Q:VK),Inv X aa σ H s->t σ H Q->
  wpAny (model X.prog X.w) X.A (eval a X.env) (fun v s₁=>wpAny (model X.prog X.w) X.A (eval b X.env) (fun u s₂=>wpAny (model X.prog X.w) X.A (compareOp op v u) (EP X aa σ Q) X.xe s₂) X.xe s₁) X.xe s
def tB (t:TE):TT:=fun σ H Q=>t σ H fun x H1=>∃c,x=.bl c∧Q c H1
theorem uB {op:CmpOp}{t:TE}(h:PC X op a b t) (h1:behindInMarks op b=false:=by first|exact nobehind _ (by decide) (by decide)|rfl):PT X (.Compare a [op] [b] pos) (tB t):=by
 intro aa s σ H Q I hw
 refine wpAny_isTrue_Compare1 (thn (h aa s σ H _ I hw) fun v s1 h1=>thn h1 fun u s2 h2=>thn h2 fun c s3 hh=>ex5 hh fun x H1 I1 r1 q1=>?_) h1
 obtain⟨d,rfl,q⟩:=q1
 cases r1
 exact wpAny_truthy_bool ⟨H1,I1,q⟩
theorem cA {e:Expr}{t:TE}(h:PE X e t) (he:∀whole,isTrue e X.env whole=(do let v ←whole;standAt e.pos;holding [v] (truthy v)):=by intro _;rfl):PT X e (tB t):=by
 intro aa s σ H Q I hw
 refine isTrue_plain (thn (h aa s σ H _ I hw) fun v s1 hh=>ex5 hh fun x H1 I1 r1 q1=>?_) (he _)
 obtain⟨d,rfl,q⟩:=q1
 cases r1
 exact wpAny_truthy_bool ⟨H1,I1,q⟩
variable {tA tB':TT}{rest:List Expr}
def Es (t u:TT):TT:=fun σ H Q=>t σ H fun c H1=>if c=true then u σ H1 Q else Q false H1
def tOr (t u:TT):TT:=fun σ H Q=>t σ H fun c H1=>if c=true then Q true H1 else u σ H1 Q
def Et (t:TT):TT:=fun σ H Q=>t σ H fun c H1=>Q (!c) H1
theorem rC (ha:PT X a tA):PW X (.BoolOp .And [a] pos) tA:=by
 intro wh aa s σ H Q I h
 refine isTrue_and (thn (ha aa s σ H Q I h) fun c s1 e=>?_)
 cases c with
 | true=>exact isTrue_and_nil e
 | false=>exact e
theorem fN (ha:PT X a tA):PW X (.BoolOp .Or [a] pos) tA:=by
 intro wh aa s σ H Q I h
 refine isTrue_or (thn (ha aa s σ H Q I h) fun c s1 e=>?_)
 cases c with
 | false=>exact isTrue_or_nil e
 | true=>exact e
theorem uC (ha:PT X a tA) (hb:PW X (.BoolOp .And (b::rest) pos) tB'):PW X (.BoolOp .And (a::b::rest) pos) (Es tA tB'):=by
 intro wh aa s σ H Q I h
 refine isTrue_and (thn (ha aa s σ H _ I h) fun c s1 hh9=>?_)
 obtain⟨H1,I1,q1⟩:=hh9
 cases c with
 | true=>exact hb wh aa s1 σ H1 Q I1 q1
 | false=>exact⟨H1,I1,q1⟩
theorem fG (ha:PT X a tA) (hb:PW X (.BoolOp .Or (b::rest) pos) tB'):PW X (.BoolOp .Or (a::b::rest) pos) (tOr tA tB'):=by
 intro wh aa s σ H Q I h
 refine isTrue_or (thn (ha aa s σ H _ I h) fun c s1 hh9=>?_)
 obtain⟨H1,I1,q1⟩:=hh9
 cases c with
 | true=>exact⟨H1,I1,q1⟩
 | false=>exact hb wh aa s1 σ H1 Q I1 q1
theorem bV (ha:PT X a tA):PT X (.UnaryOp .Not a pos) (Et tA):=by
 intro aa s σ H Q I h
 exact isTrue_not (ha aa s σ H (fun c H1=>Q (!c) H1) I h)
def Dj (ta tb:TE):TE:=fun σ H Q=>ta σ H fun x H1=>∃c,x=.bl c∧if c=true then tb σ H1 Q else Q (.bl false) H1
def Dl (ta:TE):TE:=fun σ H Q=>ta σ H fun x H1=>∃c,x=.bl c∧Q (.bl (!c)) H1
theorem iP {op}{t:TE}(h:PE X a t):PE X (.BoolOp op [a] pos) t:=fun aa s σ H Q I hw=>BoolOp_one (h aa s σ H Q I hw)
theorem fO (ha:PE X a ta) (hb:PE X (.BoolOp .And (b::rest) pos) tb):PE X (.BoolOp .And (a::b::rest) pos) (Dj ta tb):=by
 intro aa s σ H Q I h
 refine BoolOp_and (thn (ha aa s σ H _ I h) fun v s1 hh=>ex5 hh fun x H1 I1 r1 q1=>?_)
 obtain⟨c,rfl,q1⟩:=q1
 cases r1
 refine wpAny_truthy_bool ?_
 cases c with
 | true=>exact hb aa s1 σ H1 Q I1 q1
 | false=>exact⟨.bl false,H1,I1,rfl,q1⟩
theorem Am (ha:PE X a ta):PE X (.UnaryOp .Not a pos) (Dl ta):=by
 intro aa s σ H Q I h
 refine UnaryOp_ (thn (ha aa s σ H _ I h) fun v s1 hh=>ex5 hh fun x H1 I1 r1 q1=>?_)
 obtain⟨c,rfl,q1⟩:=q1
 cases r1
 exact not_of (wpAny_truthy_bool ⟨.bl (!c),H1,I1,rfl,q1⟩)
end
end L2
namespace L2
open PySem PySem.Spec PyProof.Rows
def SqL (K:W.Frag) (H:Hp) (a:Addr) (xs:List V):Prop:=
 Rd H a (.lst xs)∨
  ∃(o:Obj) (its:Array Value) (n:Nat),K.lookup a=some o∧o.cls=.type "list"∧o.dict=none∧o.data=.seq its n∧its.size≤sizeLine∧av xs its.toList
def SqT (K:W.Frag) (H:Hp) (a:Addr) (xs:List V):Prop:=
 Rd H a (.tup xs)∨
  ∃(o:Obj) (its:Array Value) (n:Nat),K.lookup a=some o∧o.cls=.type "tuple"∧o.data=.seq its n∧its.size≤sizeLine∧av xs its.toList∧o.dict=none
def Eu:Value->Option V
 | .none=>some .non
 | .bool b=>some (.bl b)
 | .int i _=>some (.int i)
 | .str x _=>some (.str x)
 | .bytes b _=>some (.byt b)
 | .float b _=>some (.flt b)
 | .ref a=>some (.ref a)
 | .type n=>some (.ty n)
 | _=>none
theorem az.abs {x:V}{u:Value}(r:az x u):Eu u=some x:=by
 cases x with
 | non=>cases r;rfl
 | bl _=>cases r;rfl
 | int _=>obtain⟨t,rfl⟩:=r;rfl
 | str _=>obtain⟨t,rfl⟩:=r;rfl
 | byt _=>obtain⟨t,rfl⟩:=r;rfl
 | flt _=>obtain⟨t,rfl⟩:=r;rfl
 | ref _=>cases r;rfl
 | ty _=>cases r;rfl
theorem az.inj {x y:V}{u:Value}(r:az x u) (q:az y u):x=y:=Option.some.inj (r.abs.symm.trans q.abs)
theorem av.inj:∀{xs ys:List V}{us:List Value},av xs us->av ys us->xs=ys
 | _,_,_,.nil,.nil=>rfl
 | _,_,_,.cons r t,.cons r' t'=>by rw[r.inj r',av.inj t t']
section
variable {X:Cx}{aa:List (Addr×Obj)}{σ:St}{H:Hp}{s:Shared}{a:Addr}{xs ys:List V}
theorem SqL.of {K:W.Frag}(h:H a=some (.lst xs)):SqL K H a xs:=.inl (.inl h)
theorem SqT.of {K:W.Frag}(h:H a=some (.tup xs)):SqT K H a xs:=.inl (.inl h)
theorem Inv.list (I:Inv X aa σ H s) (h:SqL X.K H a xs):∃its:List Value,av xs its∧PlainL s.heap a its.toArray∧xs.length≤sizeLine:=by
 rcases h with h|⟨o,its,n,hk,hc,hd,hs,hz,r⟩
 ·obtain⟨z,its,n,r,e⟩:=h.ok I.hok
  exact⟨its,r,⟨_,n,e,rfl,rfl,rfl⟩,z⟩
 ·refine⟨its.toList,r,⟨o,n,I.kIn a o hk,hc,hd,by simpa using hs⟩,?_⟩
  have e:=r.length
  simp only[Array.length_toList] at e
  lia
theorem Inv.tuple (I:Inv X aa σ H s) (h:SqT X.K H a xs):∃its:List Value,av xs its∧IsTup s.heap a its.toArray∧xs.length≤sizeLine:=by
 rcases h with h|⟨o,its,n,hk,hc,hs,hz,r,_⟩
 ·obtain⟨z,its,r,p⟩:=h.ok I.hok
  exact⟨its,r,p.tup,z⟩
 ·refine⟨its.toList,r,⟨o,I.kIn a o hk,hc,n,by simpa using hs⟩,?_⟩
  have e:=r.length
  simp only[Array.length_toList] at e
  lia
theorem Inv.list_inj (I:Inv X aa σ H s) (h:SqL X.K H a xs) (h':SqL X.K H a ys):xs=ys:=by
 obtain⟨its,r,⟨o,n,e,_,_,d⟩,_⟩:=I.list h
 obtain⟨its',r',⟨o',n',e',_,_,d'⟩,_⟩:=I.list h'
 rw[e] at e';cases e'
 rw[d] at d'
 injection d' with d1 _
 have:its=its':=by simpa using congrArg Array.toList d1
 subst this
 exact r.inj r'
theorem Inv.tuple_inj (I:Inv X aa σ H s) (h:SqT X.K H a xs) (h':SqT X.K H a ys):xs=ys:=by
 obtain⟨its,r,⟨o,e,_,n,d⟩,_⟩:=I.tuple h
 obtain⟨its',r',⟨o',e',_,n',d'⟩,_⟩:=I.tuple h'
 rw[e] at e';cases e'
 rw[d] at d'
 injection d' with d1 _
 have:its=its':=by simpa using congrArg Array.toList d1
 subst this
 exact r.inj r'
end
abbrev Cx.wish (X:Cx) (E:Value->Shared->Prop):Cx:={ X with xe:=E }
abbrev Cx.nox (X:Cx):Cx:=X.wish fun _ _=>False
theorem Cx.Ok.wish {X:Cx}(ok:X.Ok) (E:Value->Shared->Prop):(X.wish E).Ok:=
 ⟨ok.mod,ok.kind,ok.glob,ok.blt,ok.above,ok.inj,ok.has,ok.cab,ok.hd,ok.frames,ok.stk,ok.exf,ok.bs,ok.bsz,ok.noex,ok.exfs,ok.funs,ok.frf⟩
theorem Cx.Ok.unwish {X:Cx}{E:Value->Shared->Prop}(ok:(X.wish E).Ok):X.Ok:=
 ⟨ok.mod,ok.kind,ok.glob,ok.blt,ok.above,ok.inj,ok.has,ok.cab,ok.hd,ok.frames,ok.stk,ok.exf,ok.bs,ok.bsz,ok.noex,ok.exfs,ok.funs,ok.frf⟩
section
variable {X:Cx}{aa:List (Addr×Obj)}{σ:St}{H:Hp}{s:Shared}{E:Value->Shared->Prop}
theorem Inv.wish (I:Inv X aa σ H s) (E:Value->Shared->Prop):Inv (X.wish E) aa σ H s:=⟨I.ok.wish E,I.os,I.bare,I.base,I.loc,I.cell,I.free,I.freeC,I.pin,I.hok,I.len⟩
theorem Inv.unwish (I:Inv (X.wish E) aa σ H s):Inv X aa σ H s:=⟨I.ok.unwish,I.os,I.bare,I.base,I.loc,I.cell,I.free,I.freeC,I.pin,I.hok,I.len⟩
theorem SP.unwish {D:Ends}{f:Flow}{s':Shared}(h:SP (X.wish E) aa D f s'):SP X aa D f s':=by
 cases f with
 | next=>obtain⟨σ',H',I,q⟩:=h;exact⟨σ',H',I.unwish,q⟩
 | brk=>obtain⟨σ',H',I,q⟩:=h;exact⟨σ',H',I.unwish,q⟩
 | cont=>obtain⟨σ',H',I,q⟩:=h;exact⟨σ',H',I.unwish,q⟩
 | ret u=>obtain⟨v,σ',H',I,r,q⟩:=h;exact⟨v,σ',H',I.unwish,r,q⟩
theorem PSs.nox {st:List Stmt}{t:TS}(h:PSs X.nox st t):PSs X st t:=fun aa s σ H D I hw=>
 wpAny_mono (h aa s σ H D (I.wish _) hw) (fun _ _ q=>q.unwish) fun _ _ z=>False.elim z
end
section
variable {X:Cx}{st:Stmt}{rest:List Stmt}{t u:TS}{e:Expr}{te:TE}{pos:Pos}
def Dm:TS:=fun D σ H=>D.nx σ H
def Ev (t u:TS):TS:=fun D σ H=>t { D with nx:=u D } σ H
theorem aB:PSs X [] Dm:=fun _ _ σ H _ I h=>wpAny_execs_nil ⟨σ,H,I,h⟩
theorem af (h1:PS X st t) (h2:PSs X rest u):PSs X (st::rest) (Ev t u):=by
 intro aa s σ H D I h
 refine wpAny_execs_cons (thn (h1 aa s σ H { D with nx:=u D } I h) fun f s1 q=>?_)
 cases f with
 | next=>
  obtain⟨σ',H',I',q⟩:=q
  exact h2 aa s1 σ' H' D I' q
 | ret v=>exact q
 | brk=>exact q
 | cont=>exact q
theorem ai (h1:PS X st t):PSs X [st] t:=by
 intro aa s σ H D I h
 refine wpAny_execs_cons (thn (h1 aa s σ H D I h) fun f s1 q=>?_)
 cases f with
 | next=>exact wpAny_execs_nil q
 | ret v=>exact q
 | brk=>exact q
 | cont=>exact q
theorem Inv.quiet {aa:List (Addr×Obj)}{σ:St}{H:Hp}{s:Shared}(I:Inv X aa σ H s):interactive X.env=false:=by simp[interactive,I.ok.kind]
def Dp (te:TE):TS:=fun D σ H=>te σ H fun _ H1=>D.nx σ H1
theorem bq (he:PE X e te) (hs:swapsWith e none pos.line X.env=pure false:=by rfl):PS X (.Expr e pos) (Dp te):=by
 intro aa s σ H D I h
 exact wpAny_Expr_any (thn (he aa s σ H _ I h) fun v s1 hh=>ex5 hh fun x H1 I1 r1 q1=>⟨σ,H1,I1,q1⟩) I.quiet hs
def Ew (te:TE):TS:=fun D σ H=>te σ H D.rt
theorem aL (he:PE X e te):PS X (.Return (some e) pos) (Ew te):=by
 intro aa s σ H D I h
 exact wpAny_Return_some (thn (he aa s σ H _ I h) fun v s1 hh=>ex5 hh fun x H1 I1 r1 q1=>⟨x,σ,H1,I1,r1,q1⟩)
def Dq:TS:=fun D _ H=>D.rt .non H
theorem lI:PS X (.Return none pos) Dq:=fun _ _ σ H _ I h=>wpAny_Return_none ⟨.non,σ,H,I,rfl,h⟩
def Ex (c:TT) (t u:TS):TS:=fun D σ H=>c σ H fun b H1=>if b=true then t D σ H1 else u D σ H1
theorem aQ {c:Expr}{a b:List Stmt}{tc:TT}(hc:PT X c tc) (ha:PSs X a t) (hb:PSs X b u):PS X (.If c a b pos) (Ex tc t u):=by
 intro aa s σ H D I h
 refine wpAny_If (thn (hc aa s σ H _ I h) fun d s1 hh9=>?_)
 obtain⟨H1,I1,q1⟩:=hh9
 cases d with
 | true=>exact ha aa s1 σ H1 D I1 q1
 | false=>exact hb aa s1 σ H1 D I1 q1
def An:TS:=fun _ _ _=>False
theorem bn:PS X st An:=fun _ _ _ _ _ _ h=>h.elim
end
abbrev TG:=V->St->Hp->(St->Hp->Prop)->Prop
abbrev TGs:=List V->St->Hp->(St->Hp->Prop)->Prop
def PG (X:Cx) (target:Expr) (t:TG):Prop:=
 ∀(aa:List (Addr×Obj)) (s:Shared) (σ:St) (H:Hp) (v:V) (u:Value) (Q:St->Hp->Prop),Inv X aa σ H s->az v u->t v σ H Q->
  wpAny (model X.prog X.w) X.A (assign target X.env u) (fun _ s'=>∃σ' H',Inv X aa σ' H' s'∧Q σ' H') X.xe s
def PGs (X:Cx) (ts:List Expr) (t:TGs):Prop:=
 ∀(aa:List (Addr×Obj)) (s:Shared) (σ:St) (H:Hp) (vs:List V) (us:List Value) (Q:St->Hp->Prop),Inv X aa σ H s->av vs us->t vs σ H Q->
  wpAny (model X.prog X.w) X.A (assignInOrder ((assignEach ts X.env).map (·.2)) us) (fun _ s'=>∃σ' H',Inv X aa σ' H' s'∧Q σ' H') X.xe s
section
variable {X:Cx}{pos:Pos}
def fZ (i:Nat):TG:=fun v σ H Q=>Q (σ.set i (some v)) H
theorem bQ {i:Nat}{x:Str}(hN:X.N.Nodup) (hi:X.N[i]?=some x) (hx:Loc X.env.scope x) (hf:X.fn x=true∨X.env.scope.names.lookup x=some .local :=by first|exact .inl rfl|exact .inr rfl|assumption):PG X (.Name x pos) (fZ i):=by
 intro aa s σ H v u Q I r h
 exact wpAny_assign_Name (dY I hN hi hx r (fun s' I'=>⟨_,H,I',h⟩) hf)
def wt:TGs:=fun vs σ H Q=>vs=[]∧Q σ H
def kB (t:TG) (u:TGs):TGs:=fun vs σ H Q=>∃v r,vs=v::r∧t v σ H fun σ' H'=>u r σ' H' Q
theorem rD:PGs X [] wt:=by
 intro aa s σ H vs us Q I r h
 obtain⟨e,h⟩:=h
 subst e
 cases r
 exact assignInOrder_nil ⟨σ,H,I,h⟩
theorem hJ {e:Expr}{es:List Expr}{t:TG}{u:TGs}(h1:PG X e t) (h2:PGs X es u)
  (hs:(assignEach (e::es) X.env).map (·.2)=assign e X.env::(assignEach es X.env).map (·.2):=by rfl):PGs X (e::es) (kB t u):=by
 intro aa s σ H vs us Q I r h
 obtain⟨v,vr,e1,h⟩:=h
 subst e1
 cases r with
 | cons r rr=>
  rw[hs]
  refine assignInOrder_cons (thn (h1 aa s σ H _ _ _ I r h) fun _ s1 hh9=>?_)
  obtain⟨σ1,H1,I1,q1⟩:=hh9
  exact h2 aa s1 σ1 H1 _ _ Q I1 rr q1
def wu (K:W.Frag) (n:Nat) (t:TGs):TG:=fun v σ H Q=>∃a xs,v=.ref a∧SqT K H a xs∧xs.length=n∧t xs σ H Q
theorem uD {es:List Expr}{k:Nat}{t:TGs}{n:Nat}(hc:X.calm=true) (h:PGs X es t)
  (hn:(assignEach es X.env).length=n:=by rfl) (hst:(assignEach es X.env).findIdx? (·.1)=none:=by rfl):PG X (.Tuple es k pos) (wu X.K n t):=by
 intro aa s σ H v u Q I r hw
 obtain⟨a,xs,e1,hq,hl,hw⟩:=hw
 subst e1
 cases r
 obtain⟨its,rv,ht,hz⟩:=I.tuple hq
 refine assign_Tuple_tuple (I.ok.hd hc) ht (by simp[hn,←hl,rv.length]) hst fun h' hx=>?_
 have I1:Inv X aa σ H { s with heap:=h' }:=I.kept (t':=s.toks) fun b o e=>hx b o (Nat.ne_of_lt (Heap.lt_size e)) e
 exact h aa _ σ H xs _ Q I1 (by simpa using rv) hw
def wv (te:TE) (g:TG):TS:=fun D σ H=>te σ H fun x H1=>g x σ H1 D.nx
theorem ay {i:Nat}{x:Str}{e:Expr}{te:TE}{pos':Pos}(hN:X.N.Nodup) (hi:X.N[i]?=some x) (hx:Loc X.env.scope x) (he:PE X e te) (hs:swapsWith e (some (.Name x pos')) pos.line X.env=pure false:=by rfl) (hf:X.fn x=true∨X.env.scope.names.lookup x=some .local :=by first|exact .inl rfl|exact .inr rfl|assumption) :
  PS X (.Assign [.Name x pos'] e pos) (wv te (fZ i)):=by
 intro aa s σ H D I h
 refine wpAny_Assign_Name (thn (he aa s σ H _ I h) fun v s1 hh=>ex5 hh fun y H1 I1 r1 q1=>?_) hs
 exact dY I1 hN hi hx r1 (fun s2 I2=>⟨_,H1,I2,q1⟩) hf
end
section
variable {X:Cx}{pos:Pos}
end
structure It where
 go:Nat->Hp->Prop
 yld:Nat->Hp->V->Hp->Prop
 stop:Nat->Hp->Prop
def cW (X:Cx) (aa:List (Addr×Obj)) (H:Hp) (b:Addr):Prop:=
 H b=none∧b≠X.env.locals∧b∉X.fs∧(b∈X.ex∨X.s₀.heap.objs.size≤b)∧(∀x c,X.env.cells.lookup x=some c->c≠b)∧∀p∈X.pn++aa,p.1≠b
theorem Inv.fpOk {X:Cx}{aa:List (Addr×Obj)}{σ:St}{H H':Hp}{s:Shared}{b:Addr}(I:Inv X aa σ H s) (hb:s.heap.objs.size≤b) (hn:H' b=none):cW X aa H' b:=by
 refine⟨hn,Nat.ne_of_gt (Nat.lt_of_lt_of_le I.lt hb),I.nofs hb,.inr (Nat.le_trans I.sz hb),fun x c e z=>?_,fun p hp z=>?_⟩
 ·obtain⟨v,q⟩:=I.cell x c e
  exact absurd (Nat.lt_of_lt_of_le q.lt (by rw[z];exact hb)) (Nat.lt_irrefl _)
 ·exact absurd (Nat.lt_of_lt_of_le (Heap.lt_size (I.pin p hp).1) (by rw[z];exact hb)) (Nat.lt_irrefl _)
structure Turn (P:Program) (w:World) (K:W.Frag) (tg:Expr) (J:It) (fp:List Addr) (it:Addr) (tn:Nat->Heap->Prop):Prop where
 mem:it∈fp
 obj:∀i h,tn i h->∀b∈fp,∃o,h.get? b=some o∧∀v,o.data≠.cell v
 keep:∀i h h',tn i h->(∀b∈fp,∀o,h.get? b=some o->h'.get? b=some o)->tn i h'
 item:∀(X:Cx),X.prog=P->X.w=w->X.K=K->X.calm=true->∀(i:Nat) (aa:List (Addr×Obj)) (s:Shared) (σ:St) (H:Hp) (E:Value->Shared->Prop),Inv X aa σ H s->(∀b∈fp,cW X aa H b)->tn i s.heap->J.go i H->
  wpAny (model P w) X.A (pyNext (.ref it)) (fun r s1=>∃u,r=some u∧
   wpAny (model P w) X.A (letOwnedTupleGo tg (.ref it) u) (fun _ s2=>∃x H',Inv X aa σ H' s2∧az x u∧J.yld i H x H'∧tn (i+1) s2.heap∧∀b∈fp,H' b=none) E s1) E s
 done:∀(X:Cx),X.prog=P->X.w=w->X.K=K->X.calm=true->∀(i:Nat) (aa:List (Addr×Obj)) (s:Shared) (σ:St) (H:Hp) (E:Value->Shared->Prop),Inv X aa σ H s->(∀b∈fp,cW X aa H b)->tn i s.heap->J.stop i H->
  wpAny (model P w) X.A (pyNext (.ref it)) (fun r s1=>r=none∧Inv X aa σ H s1) E s
 self:∀(A:Around) (i:Nat) (s:Shared) (Q:Value->Shared->Prop) (E:Value->Shared->Prop),tn i s.heap->Q (.ref it) s->wpAny (model P w) A (pyIter (.ref it)) Q E s
abbrev TI:=St->Hp->(It->Hp->Prop)->Prop
def PIE (X:Cx) (aa:List (Addr×Obj)) (σ:St) (tg:Expr) (R:It->Hp->Prop) (itv:Value) (s2:Shared):Prop:=
 ∃(it:Addr) (fp:List Addr) (tn:Nat->Heap->Prop) (J:It) (H':Hp),itv=.ref it∧Inv X aa σ H' s2∧Turn X.prog X.w X.K tg J fp it tn∧tn 0 s2.heap∧(∀b∈fp,cW X aa H' b)∧R J H'
def PI (X:Cx) (tg iter:Expr) (wi:TI):Prop:=
 ∀(aa:List (Addr×Obj)) (s:Shared) (σ:St) (H:Hp) (R:It->Hp->Prop),Inv X aa σ H s->wi σ H R->
  wpAny (model X.prog X.w) X.A (eval iter X.env) (fun v s1=>wpAny (model X.prog X.w) X.A (pyIter v) (PIE X aa σ tg R) X.xe s1) X.xe s
theorem nV {M:Model}{A:Around}{E:Value->Shared->Prop}{s:Shared}{tg:Expr}{it:Addr}{u:Value}{o:Obj}{n:String}{vs:Array Value}{Q:Unit->Shared->Prop}(ho:s.heap.get? it=some o) (hc:o.cls=.type n) (hd:o.data=.fields vs)
  (hn:["enumerate","zip","dict_itemiterator","dict_reverseitemiterator","odict_iterator","itertools.zip_longest","itertools.pairwise"].contains n=false) (hQ:Q () s):wpAny M A (letOwnedTupleGo tg (.ref it) u) Q E s:=by
 unfold letOwnedTupleGo
 cases tg <;> first
  | exact wpAny_pure hQ
  | (cases u <;> first
    | exact wpAny_pure hQ
    | (refine wpAny_bind (wpAny_load ho ?_);rw[hc,hd];show wpAny M A (if (["enumerate","zip","dict_itemiterator","dict_reverseitemiterator","odict_iterator","itertools.zip_longest","itertools.pairwise"].contains n&&vs[0]?==some (rawInt _))=true then _ else _) Q E s;rw[if_neg (by intro h;rw[hn,Bool.false_and] at h;cases h)];exact wpAny_pure hQ))
def Itl (K:W.Frag) (a:Addr):It:=
 ⟨fun i H=>∃xs x,SqL K H a xs∧xs[i]?=some x,fun i H x H'=>H'=H∧∀xs,SqL K H a xs->xs[i]?=some x,fun i H=>∃xs,SqL K H a xs∧xs.length≤i⟩
def Itt (K:W.Frag) (a:Addr):It:=
 ⟨fun i H=>∃xs x,SqT K H a xs∧xs[i]?=some x,fun i H x H'=>H'=H∧∀xs,SqT K H a xs->xs[i]?=some x,fun i H=>∃xs,SqT K H a xs∧xs.length≤i⟩
def Itr (lo:Int) (n:Nat):It:=⟨fun i _=>i<n,fun i H x H'=>H'=H∧x=.int (lo+i),fun i _=>n≤i⟩
theorem uE {P:Program}{w:World}{K:W.Frag}{tg:Expr}(a it:Addr):Turn P w K tg (Itl K a) [it] it (fun i h=>h.IsListIter it a i) where
 mem:=by simp
 obj:=fun i h st b hb=>by
  have e:b=it:=by simpa using hb
  subst e
  obtain⟨o,e,c,d⟩:=st
  exact⟨o,e,fun v z=>by rw[d] at z;cases z⟩
 keep:=fun i h h' st k=>st.at fun o e=>k it (by simp) o e
 item:=by
  intro X hP hw hK hc i aa s σ H E I hf st hg
  subst hP hw hK
  obtain⟨xs,x,hq,hx⟩:=hg
  obtain⟨its,rv,p,hz⟩:=I.list hq
  obtain⟨u,hu,ru⟩:=rv.get hx
  obtain⟨f0,f1,f2,f3,f4,f5⟩:=hf it (by simp)
  refine wpAny_pyNext_list_item st p.isList (x:=u) (by simpa using hu) fun h' st' sb=>?_
  have I1:Inv X aa σ H { s with heap:=h' }:=I.turned (t':=s.toks) (fun b o hb e=>(sb.2 b hb).trans e) f0 f1 f3 f4 f5
  obtain⟨o,e,c,d⟩:=id st'
  exact⟨u,rfl,nV (s:={ s with heap:=h' }) e c d (by decide) ⟨x,H,I1,ru,⟨rfl,fun ys hy=>by rw[I.list_inj hy hq];exact hx⟩,st',fun b hb=>(hf b hb).1⟩⟩
 done:=by
  intro X hP hw hK hc i aa s σ H E I hf st hg
  subst hP hw hK
  obtain⟨xs,hq,hx⟩:=hg
  obtain⟨its,rv,p,hz⟩:=I.list hq
  obtain⟨f0,f1,f2,f3,f4,f5⟩:=hf it (by simp)
  have hl:=rv.length
  exact wpAny_pyNext_list_end (I.ok.hd hc) st p.isList (by simp;lia) fun h' eb=>⟨rfl,I.turned (t':=s.toks) (fun b o hb e=>eb b o hb e) f0 f1 f3 f4 f5⟩
 self:=fun _ _ _ _ _ st h=>wpAny_pyIter_listiter st h
theorem sQ {P:Program}{w:World}{K:W.Frag}{tg:Expr}(a it:Addr):Turn P w K tg (Itt K a) [it] it (fun i h=>h.IsTupleIter it a i) where
 mem:=by simp
 obj:=fun i h st b hb=>by
  have e:b=it:=by simpa using hb
  subst e
  obtain⟨o,e,c,d⟩:=st
  exact⟨o,e,fun v z=>by rw[d] at z;cases z⟩
 keep:=fun i h h' st k=>st.at fun o e=>k it (by simp) o e
 item:=by
  intro X hP hw hK hc i aa s σ H E I hf st hg
  subst hP hw hK
  obtain⟨xs,x,hq,hx⟩:=hg
  obtain⟨its,rv,p,hz⟩:=I.tuple hq
  obtain⟨u,hu,ru⟩:=rv.get hx
  obtain⟨f0,f1,f2,f3,f4,f5⟩:=hf it (by simp)
  refine wpAny_pyNext_tuple_item st (show s.heap.IsTuple a its.toArray from p) (x:=u) (by simpa using hu) fun h' st' sb=>?_
  have I1:Inv X aa σ H { s with heap:=h' }:=I.turned (t':=s.toks) (fun b o hb e=>(sb.2 b hb).trans e) f0 f1 f3 f4 f5
  obtain⟨o,e,c,d⟩:=id st'
  exact⟨u,rfl,nV (s:={ s with heap:=h' }) e c d (by decide) ⟨x,H,I1,ru,⟨rfl,fun ys hy=>by rw[I.tuple_inj hy hq];exact hx⟩,st',fun b hb=>(hf b hb).1⟩⟩
 done:=by
  intro X hP hw hK hc i aa s σ H E I hf st hg
  subst hP hw hK
  obtain⟨xs,hq,hx⟩:=hg
  obtain⟨its,rv,p,hz⟩:=I.tuple hq
  obtain⟨f0,f1,f2,f3,f4,f5⟩:=hf it (by simp)
  have hl:=rv.length
  exact wpAny_pyNext_tuple_end (I.ok.hd hc) st (show s.heap.IsTuple a its.toArray from p) (by simp;lia) fun h' eb=>⟨rfl,I.turned (t':=s.toks) (fun b o hb e=>eb b o hb e) f0 f1 f3 f4 f5⟩
 self:=fun _ _ _ _ _ st h=>wpAny_pyIter_tupleiter st h
theorem sR {P:Program}{w:World}{K:W.Frag}{tg:Expr}(it:Addr) (lo:Int) (n:Nat):Turn P w K tg (Itr lo n) [it] it (fun i h=>IsRangeIter h it (lo+(i:Nat)*1) ((n:Int)-(i:Nat)) 1) where
 mem:=by simp
 obj:=fun i h st b hb=>by
  have e:b=it:=by simpa using hb
  subst e
  exact⟨_,st,fun v z=>by
   have z':Data.fields _=Data.cell v:=z
   cases z'⟩
 keep:=fun i h h' st k=>k it (by simp) _ st
 item:=by
  intro X hP hw hK hc i aa s σ H E I hf st hg
  subst hP hw hK
  obtain⟨f0,f1,f2,f3,f4,f5⟩:=hf it (by simp)
  have W:=Walks.range (prog:=X.prog) (w:=X.w) (I.ok.hd hc) it lo 1 n
  refine W.item i s _ _ hg st fun v h' tk hv st' kk=>?_
  obtain⟨t,rfl⟩:=hv
  have I1:Inv X aa σ H { s with heap:=h',toks:=tk }:=I.turned (fun b o hb e=>kk b o (by simpa using hb) e) f0 f1 f3 f4 f5
  refine⟨_,rfl,nV (s:={ s with heap:=h',toks:=tk }) (n:="range_iterator") st' rfl rfl (by decide) ⟨.int (lo+i),H,I1,⟨t,?_⟩,⟨rfl,rfl⟩,st',fun b hb=>(hf b hb).1⟩⟩
  rw[Int.mul_one]
 done:=by
  intro X hP hw hK hc i aa s σ H E I hf st hg
  subst hP hw hK
  obtain⟨f0,f1,f2,f3,f4,f5⟩:=hf it (by simp)
  exact wpAny_pyNext_range_end (I.ok.hd hc) st (by have:n≤i:=hg;lia) fun h' eb=>⟨rfl,I.turned (t':=s.toks) (fun b o hb e=>eb b o hb e) f0 f1 f3 f4 f5⟩
 self:=fun _ _ _ _ _ st h=>wpAny_pyIter_rangeiter st h
end L2
namespace L2
open PySem PySem.Spec PyProof.Rows
section
variable {X:Cx}{tg:Expr}
def Dr (K:W.Frag) (tl:TE):TI:=fun σ H R=>tl σ H fun x H1=>∃a,x=.ref a∧(∃xs,SqL K H1 a xs)∧R (Itl K a) H1
def Ey (K:W.Frag) (tl:TE):TI:=fun σ H R=>tl σ H fun x H1=>∃a,x=.ref a∧(∃xs,SqT K H1 a xs)∧R (Itt K a) H1
theorem cg {l:Expr}{tl:TE}(hl:PE X l tl):PI X tg l (Dr X.K tl):=by
 intro aa s σ H R I h
 refine thn (hl aa s σ H _ I h) fun v s1 hh=>ex5 hh fun x H1 I1 r1 q1=>?_
 obtain⟨a,e,⟨xs,hq⟩,q⟩:=q1
 subst e
 cases r1
 obtain⟨its,rv,p,hz⟩:=I1.list hq
 refine wpAny_pyIter_list p.isList ?_
 refine⟨s1.heap.objs.size,[s1.heap.objs.size],_,_,H1,rfl,I1.kept (t':=s1.toks) fun b o e=>Heap.get?_push_of_some _ e,uE a _,⟨_,Heap.get?_push_size _ rfl,rfl,rfl⟩,fun b hb=>?_,q⟩
 have e:b=s1.heap.objs.size:=by simpa using hb
 subst e
 exact I1.fpOk (Nat.le_refl _) (I1.hok.fresh (Nat.le_refl _))
theorem gI {l:Expr}{tl:TE}(hl:PE X l tl):PI X tg l (Ey X.K tl):=by
 intro aa s σ H R I h
 refine thn (hl aa s σ H _ I h) fun v s1 hh=>ex5 hh fun x H1 I1 r1 q1=>?_
 obtain⟨a,e,⟨xs,hq⟩,q⟩:=q1
 subst e
 cases r1
 obtain⟨its,rv,p,hz⟩:=I1.tuple hq
 refine wpAny_pyIter_tuple (show s1.heap.IsTuple a its.toArray from p) ?_
 refine⟨s1.heap.objs.size,[s1.heap.objs.size],_,_,H1,rfl,I1.kept (t':=s1.toks) fun b o e=>Heap.get?_push_of_some _ e,sQ a _,⟨_,Heap.get?_push_size _ rfl,rfl,rfl⟩,fun b hb=>?_,q⟩
 have e:b=s1.heap.objs.size:=by simpa using hb
 subst e
 exact I1.fpOk (Nat.le_refl _) (I1.hok.fresh (Nat.le_refl _))
theorem ww {aa:List (Addr×Obj)}{σ:St}{H:Hp}{s:Shared}{R:It->Hp->Prop}{E:Value->Shared->Prop}{lo hi:Int}{t u v:Tok}{tk:Nat}(I:Inv X aa σ H s) (h1:-(2 ^ 62)≤lo) (h2:lo<2 ^ 62) (h3:-(2 ^ 62)≤hi) (h4:hi<2 ^ 62)
  (q:R (Itr lo (hi-lo).toNat) H):wpAny (model X.prog X.w) X.A (pyIter (.ref s.heap.objs.size)) (PIE X aa σ tg R) E { s with heap:=s.heap.push { cls:=.type "range",data:=.fields #[.int lo t,.int hi u,.int 1 v] },toks:=tk }:=by
 refine wpAny_pyIter_range (IsRange.new ..) (small_one h1 h2 h3 h4) ?_
 have I1:Inv X aa σ H { s with heap:=s.heap.push { cls:=.type "range",data:=.fields #[.int lo t,.int hi u,.int 1 v] },toks:=tk }:=I.kept fun b o e=>Heap.get?_push_of_some _ e
 refine⟨(s.heap.push { cls:=.type "range",data:=.fields #[.int lo t,.int hi u,.int 1 v] }).objs.size,[(s.heap.push { cls:=.type "range",data:=.fields #[.int lo t,.int hi u,.int 1 v] }).objs.size],_,_,H,rfl,
  I1.kept (t':=tk) fun b o e=>Heap.get?_push_of_some _ e,sR _ lo (hi-lo).toNat,?_,fun b hb=>?_,q⟩
 ·have e1:lo+((0:Nat):Int)*1=lo:=by simp
  have e2:(((hi-lo).toNat:Nat):Int)-((0:Nat):Int)=Builtin.Range.rangeSize lo hi 1:=by rw[rangeSize_one];split <;> lia
  show IsRangeIter _ _ (lo+((0:Nat):Int)*1) ((((hi-lo).toNat:Nat):Int)-((0:Nat):Int)) 1
  rw[e1,e2]
  exact Heap.get?_push_size _ rfl
 ·have e:b=(s.heap.push { cls:=.type "range",data:=.fields #[.int lo t,.int hi u,.int 1 v] }).objs.size:=by simpa using hb
  subst e
  exact I1.fpOk (Nat.le_refl _) (I1.hok.fresh (Nat.le_refl _))
def Ds (ta:TA):TI:=fun σ H R=>ta σ H fun vs H1=>∃j:Int,vs=[.int j]∧-(2 ^ 62)≤j∧j<2 ^ 62∧R (Itr 0 j.toNat) H1
theorem gb {a:Expr}{ta:TA}{p pos:Pos}(hg:Gl X "range") (hm:X.mg "range"=none) (ha:PA X [a] ta) (hs:starEach [a] X.env=[(false,eval a X.env)]:=by rfl):PI X tg (.Call (.Name "range" p) [a] [] pos) (Ds ta):=by
 intro aa s σ H R I h
 refine Call_ (kA I hg hm boot_range (PyProof.Rows.callWith_type1 (thn (ha pos aa s σ H _ I h) fun us s1 hh=>ex5 hh fun vs H1 I1 r1 q1=>?_) hs rfl))
 obtain⟨j,e,q1,q2,q⟩:=q1
 subst e
 cases r1 with
 | cons r rr=>
  cases rr
  obtain⟨t,rfl⟩:=r
  exact call_range_1 (ww I1 (by lia) (by lia) q1 q2 (by simpa using q))
def Ez (wi:TI) (g:TG) (tb:TS):TS:=fun D σ H=>wi σ H fun J H1=>∃W:Nat->Nat->St->Hp->Prop,(∃m,W 0 m σ H1)∧∀i m σ H,W i m σ H->
 (J.stop i H∧D.nx σ H)∨(J.go i H∧∃N:St->Hp->Prop,(∀σ' H',N σ' H'->∃m',m' < m∧W (i+1) m' σ' H')∧∀x H',J.yld i H x H'->g x σ H' fun σ2 H2=>tb { D with nx:=N,ct:=N,bk:=D.nx } σ2 H2)
def eI (fp:List Addr) (h:Heap):List (Addr×Obj):=fp.filterMap fun b=>(h.get? b).map fun o=>(b,o)
theorem bE {fp:List Addr}{h:Heap}{b:Addr}{o:Obj}(hb:b∈fp) (e:h.get? b=some o):(b,o)∈eI fp h:=List.mem_filterMap.mpr ⟨b,hb,by rw[e];rfl⟩
theorem uF {fp:List Addr}{h:Heap}{p:Addr×Obj}(hp:p∈eI fp h):p.1∈fp∧h.get? p.1=some p.2:=by
 obtain⟨b,hb,e⟩:=List.mem_filterMap.mp hp
 cases q:h.get? b with
 | none=>rw[q] at e;cases e
 | some o=>
  rw[q] at e
  have e':(b,o)=p:=Option.some.inj e
  subst e'
  exact⟨hb,q⟩
theorem Inv.pinned {aa:List (Addr×Obj)}{σ:St}{H:Hp}{s:Shared}{fp:List Addr}(I:Inv X aa σ H s) (hf:∀b∈fp,cW X aa H b) (ho:∀b∈fp,∃o,s.heap.get? b=some o∧∀v,o.data≠.cell v):Inv X (aa++eI fp s.heap) σ H s:=
 I.pins_of fun p hp=>(List.mem_append.mp hp).elim (fun z=>I.pin p (List.mem_append_right _ z)) fun z=>by
  obtain⟨hb,e⟩:=uF z
  obtain⟨f0,f1,f2,_⟩:=hf p.1 hb
  obtain⟨o,e',d⟩:=ho p.1 hb
  rw[e] at e';cases e'
  exact⟨e,f0,f1,f2,d⟩
theorem Inv.unpinned {aa pl:List (Addr×Obj)}{σ:St}{H:Hp}{s:Shared}(I:Inv X (aa++pl) σ H s):Inv X aa σ H s:=I.pins_of fun p hp=>I.pin p (List.mem_append_right _ (List.mem_append_left _ hp))
theorem cZ {iter:Expr}{body:List Stmt}{wi:TI}{g:TG}{tb:TS}{pos:Pos}(hp:PassesOwn (model X.prog X.w) X.A X.env X.xe) (hc:X.calm=true) (hi:PI X tg iter wi) (hg:PG X tg g) (hb:PSs X body tb)
  (hs:∀x,foldedSetIterable iter X.env x=pure x:=by intro _;rfl):PS X (.For tg iter body [] pos) (Ez wi g tb):=by
 intro aa s σ H D I h
 refine wpAny_For (thn (hi aa s σ H _ I h) fun v s1 h1=>thn h1 fun itv s2 h2=>?_) hs
 obtain⟨it,fp,tn,J,H2,e,I2,T,st2,f2,W,⟨m0,w0⟩,turn⟩:=h2
 subst e
 have stat:∀{H':Hp},(∀b∈fp,H' b=none)->∀b∈fp,cW X aa H' b:=fun hn b hb=>⟨hn b hb,(f2 b hb).2⟩
 refine codeAny_forLoop_any (fun n s'=>∃i σ' H',Inv X aa σ' H' s'∧tn i s'.heap∧(∀b∈fp,H' b=none)∧W i n σ' H') ?_ m0 ⟨0,σ,H2,I2,st2,fun b hb=>(f2 b hb).1,w0⟩
 rintro n s3 ⟨i,σ3,H3,I3,st3,fr3,w3⟩
 rcases turn i n σ3 H3 w3 with⟨stop,qn⟩|⟨go,N,hN,step⟩
 ·refine wpAny_passesOwn hp (thn (T.done X rfl rfl rfl hc i aa s3 σ3 H3 X.xe I3 (stat fr3) st3 stop) fun r s4 hh9=>?_)
  obtain⟨hr,I4⟩:=hh9
  subst hr
  exact wpAny_execs_nil ⟨σ3,H3,I4,qn⟩
 ·refine wpAny_passesOwn hp (thn (T.item X rfl rfl rfl hc i aa s3 σ3 H3 X.xe I3 (stat fr3) st3 go) fun r s4 hh9=>?_)
  obtain⟨u,hr,h4⟩:=hh9
  subst hr
  refine wpAny_passesOwn hp (thn h4 fun _ s5 hh9=>?_)
  obtain⟨x,H5,I5,r5,y5,st5,fr5⟩:=hh9
  have I5':=I5.pinned (stat fr5) (T.obj _ _ st5)
  refine wpAny_passesOwn hp (thn (hg _ s5 σ3 H5 x u _ I5' r5 (step x H5 y5)) fun _ s6 hh9=>?_)
  obtain⟨σ6,H6,I6,q6⟩:=hh9
  refine wpAny_passesOwn hp (thn (hb _ s6 σ6 H6 _ I6 q6) fun f s7 q7=>?_)
  have again:∀{σ7:St}{H7:Hp},Inv X (aa++eI fp s5.heap) σ7 H7 s7->N σ7 H7->∃m,m<n∧∃i σ' H',Inv X aa σ' H' s7∧tn i s7.heap∧(∀b∈fp,H' b=none)∧W i m σ' H':=fun {σ7 H7} I7 n7=>by
   obtain⟨m',hm,w7⟩:=hN σ7 H7 n7
   refine⟨m',hm,i+1,σ7,H7,I7.unpinned,T.keep _ _ _ st5 fun b hb o e=>(I7.pin (b,o) (List.mem_append_right _ (List.mem_append_right _ (bE hb e)))).1,fun b hb=>?_,w7⟩
   obtain⟨o,e,d⟩:=T.obj _ _ st5 b hb
   exact(I7.pin (b,o) (List.mem_append_right _ (List.mem_append_right _ (bE hb e)))).2.1
  cases f with
  | next=>obtain⟨σ7,H7,I7,n7⟩:=q7;exact again I7 n7
  | cont=>obtain⟨σ7,H7,I7,n7⟩:=q7;exact again I7 n7
  | brk=>obtain⟨σ7,H7,I7,q7⟩:=q7;exact⟨σ7,H7,I7.unpinned,q7⟩
  | ret v=>obtain⟨x7,σ7,H7,I7,r7,q7⟩:=q7;exact⟨x7,σ7,H7,I7.unpinned,r7,q7⟩
end
theorem dZ {K:W.Frag}{a:Addr}{xs:List V}{g:TG}{tb:TS}{D:Ends}{σ:St}{H:Hp}(Pv:Nat->St->Hp->Prop) (h0:Pv 0 σ H) (hl:∀i σ H,i≤xs.length->Pv i σ H->SqL K H a xs)
  (hs:∀i x σ H,xs[i]?=some x->Pv i σ H->g x σ H fun σ2 H2=>tb { D with nx:=Pv (i+1),ct:=Pv (i+1),bk:=D.nx } σ2 H2) (hd:∀σ H,Pv xs.length σ H->D.nx σ H) :
  ∃W:Nat->Nat->St->Hp->Prop,(∃m,W 0 m σ H)∧∀i m σ H,W i m σ H->
   ((Itl K a).stop i H∧D.nx σ H)∨((Itl K a).go i H∧∃N:St->Hp->Prop,(∀σ' H',N σ' H'->∃m',m' < m∧W (i+1) m' σ' H')∧∀x H',(Itl K a).yld i H x H'->g x σ H' fun σ2 H2=>tb { D with nx:=N,ct:=N,bk:=D.nx } σ2 H2):=by
 refine⟨fun i m σ H=>m=xs.length-i∧i≤xs.length∧Pv i σ H,⟨xs.length,by simp,Nat.zero_le _,h0⟩,?_⟩
 rintro i m σ H ⟨rfl,hi,p⟩
 have q:=hl i σ H hi p
 by_cases hlt:i<xs.length
 ·refine .inr ⟨⟨xs,xs[i],q,by simp[hlt]⟩,Pv (i+1),fun σ' H' p'=>⟨xs.length-(i+1),by lia,rfl,hlt,p'⟩,fun x H' y=>?_⟩
  obtain⟨e,y⟩:=y
  subst e
  exact hs i x σ _ (y xs q) p
 ·have e:i=xs.length:=by lia
  subst e
  exact .inl ⟨⟨xs,q,Nat.le_refl _⟩,hd σ H p⟩
theorem rE {K:W.Frag}{a:Addr}{xs:List V}{g:TG}{tb:TS}{D:Ends}{σ:St}{H:Hp}(Pv:Nat->St->Hp->Prop) (h0:Pv 0 σ H) (hl:∀i σ H,i≤xs.length->Pv i σ H->SqT K H a xs)
  (hs:∀i x σ H,xs[i]?=some x->Pv i σ H->g x σ H fun σ2 H2=>tb { D with nx:=Pv (i+1),ct:=Pv (i+1),bk:=D.nx } σ2 H2) (hd:∀σ H,Pv xs.length σ H->D.nx σ H) :
  ∃W:Nat->Nat->St->Hp->Prop,(∃m,W 0 m σ H)∧∀i m σ H,W i m σ H->
   ((Itt K a).stop i H∧D.nx σ H)∨((Itt K a).go i H∧∃N:St->Hp->Prop,(∀σ' H',N σ' H'->∃m',m' < m∧W (i+1) m' σ' H')∧∀x H',(Itt K a).yld i H x H'->g x σ H' fun σ2 H2=>tb { D with nx:=N,ct:=N,bk:=D.nx } σ2 H2):=by
 refine⟨fun i m σ H=>m=xs.length-i∧i≤xs.length∧Pv i σ H,⟨xs.length,by simp,Nat.zero_le _,h0⟩,?_⟩
 rintro i m σ H ⟨rfl,hi,p⟩
 have q:=hl i σ H hi p
 by_cases hlt:i<xs.length
 ·refine .inr ⟨⟨xs,xs[i],q,by simp[hlt]⟩,Pv (i+1),fun σ' H' p'=>⟨xs.length-(i+1),by lia,rfl,hlt,p'⟩,fun x H' y=>?_⟩
  obtain⟨e,y⟩:=y
  subst e
  exact hs i x σ _ (y xs q) p
 ·have e:i=xs.length:=by lia
  subst e
  exact .inl ⟨⟨xs,q,Nat.le_refl _⟩,hd σ H p⟩
theorem mx {lo:Int}{n:Nat}{g:TG}{tb:TS}{D:Ends}{σ:St}{H:Hp}(Pv:Nat->St->Hp->Prop) (h0:Pv 0 σ H)
  (hs:∀i σ H,i<n->Pv i σ H->g (.int (lo+i)) σ H fun σ2 H2=>tb { D with nx:=Pv (i+1),ct:=Pv (i+1),bk:=D.nx } σ2 H2) (hd:∀σ H,Pv n σ H->D.nx σ H) :
  ∃W:Nat->Nat->St->Hp->Prop,(∃m,W 0 m σ H)∧∀i m σ H,W i m σ H->
   ((Itr lo n).stop i H∧D.nx σ H)∨((Itr lo n).go i H∧∃N:St->Hp->Prop,(∀σ' H',N σ' H'->∃m',m' < m∧W (i+1) m' σ' H')∧∀x H',(Itr lo n).yld i H x H'->g x σ H' fun σ2 H2=>tb { D with nx:=N,ct:=N,bk:=D.nx } σ2 H2):=by
 refine⟨fun i m σ H=>m=n-i∧i≤n∧Pv i σ H,⟨n,by simp,Nat.zero_le _,h0⟩,?_⟩
 rintro i m σ H ⟨rfl,hi,p⟩
 by_cases hlt:i<n
 ·refine .inr ⟨hlt,Pv (i+1),fun σ' H' p'=>⟨n-(i+1),by lia,rfl,hlt,p'⟩,fun x H' y=>?_⟩
  obtain⟨e,y⟩:=y
  subst e y
  exact hs i σ _ hlt p
 ·have e:i=n:=by lia
  subst e
  exact .inl ⟨Nat.le_refl _,hd σ H p⟩
end L2
namespace L2
open PySem PySem.Spec PyProof.Rows
abbrev R2:=V->V->Hp->VK->Prop
def OpR (X:Cx) (f:Value->Value->Sem Value) (r:R2):Prop:=
 ∀(aa:List (Addr×Obj)) (s:Shared) (σ:St) (H:Hp) (x y:V) (v u:Value) (Q:VK),Inv X aa σ H s->az x v->az y u->r x y H Q->
  wpAny (model X.prog X.w) X.A (f v u) (EP X aa σ Q) X.xe s
def UnR (X:Cx) (f:Value->Sem Value) (r:V->Hp->VK->Prop):Prop:=
 ∀(aa:List (Addr×Obj)) (s:Shared) (σ:St) (H:Hp) (x:V) (v:Value) (Q:VK),Inv X aa σ H s->az x v->r x H Q->
  wpAny (model X.prog X.w) X.A (f v) (EP X aa σ Q) X.xe s
def cm (X:Cx) (f:Value) (r:List V->Hp->VK->Prop):Prop:=
 ∀(aa:List (Addr×Obj)) (s:Shared) (σ:St) (H:Hp) (xs:List V) (us:List Value) (Q:VK),Inv X aa σ H s->av xs us->r xs H Q->
  wpAny (model X.prog X.w) X.A (call f us) (EP X aa σ Q) X.xe s
def EA (X:Cx) (r:V->Hp->(Bool->Hp->Prop)->Prop):Prop:=
 ∀(aa:List (Addr×Obj)) (s:Shared) (σ:St) (H:Hp) (x:V) (v:Value) (Q:Bool->Hp->Prop),Inv X aa σ H s->az x v->r x H Q->
  wpAny (model X.prog X.w) X.A (truthy v) (TP X aa σ Q) X.xe s
def tOp (r:R2) (ta tb:TE):TE:=fun σ H Q=>ta σ H fun x H1=>tb σ H1 fun y H2=>r x y H2 Q
def tUn (r:V->Hp->VK->Prop) (ta:TE):TE:=fun σ H Q=>ta σ H fun x H1=>r x H1 Q
def rI (C:Int->Int->Prop) (g:Int->Int->V):R2:=fun x y H Q=>∃i j,x=.int i∧y=.int j∧C i j∧Q (g i j) H
def rI0 (g:Int->Int->V):R2:=fun x y H Q=>∃i j,x=.int i∧y=.int j∧Q (g i j) H
def rU (g:Int->V):V->Hp->VK->Prop:=fun x H Q=>∃i,x=.int i∧Q (g i) H
section
variable {X:Cx}{a b c:Expr}{ta tb tc:TE}{pos:Pos}
theorem wx (ha:PE X a ta) (hb:PE X b tb) {aa:List (Addr×Obj)}{s:Shared}{σ:St}{H:Hp}{R:V->V->Hp->Prop}(I:Inv X aa σ H s)
  (h:ta σ H fun x H1=>tb σ H1 fun y H2=>R x y H2) {Q:Value->Shared->Prop}{f:Value->Value->Sem Value}
  (hf:∀v u s2 x y H2,Inv X aa σ H2 s2->az x v->az y u->R x y H2->wpAny (model X.prog X.w) X.A (f v u) Q X.xe s2) :
  wpAny (model X.prog X.w) X.A (eval a X.env) (fun v s₁=>wpAny (model X.prog X.w) X.A (eval b X.env) (fun u s₂=>wpAny (model X.prog X.w) X.A (f v u) Q X.xe s₂) X.xe s₁) X.xe s:=by
 refine thn (ha aa s σ H _ I h) fun v s1 hh=>ex5 hh fun x H1 I1 r1 q1=>?_
 refine thn (hb aa s1 σ H1 _ I1 q1) fun u s2 hh=>ex5 hh fun y H2 I2 r2 q2=>?_
 exact hf v u s2 x y H2 I2 r1 r2 q2
theorem aA {op:Operator}{r:R2}(ho:OpR X (binaryOp op) r) (ha:PE X a ta) (hb:PE X b tb):PE X (.BinOp a op b pos) (tOp r ta tb):=by
 intro aa s σ H Q I h
 exact wpAny_BinOp (wx ha hb I h fun v u s2 x y H2 I2 rx ry q=>ho aa s2 σ H2 x y v u Q I2 rx ry q)
theorem sS {op:UnaryOp}{r:V->Hp->VK->Prop}(ho:UnR X (unaryOp op) r) (ha:PE X a ta):PE X (.UnaryOp op a pos) (tUn r ta):=by
 intro aa s σ H Q I h
 exact UnaryOp_ (thn (ha aa s σ H _ I h) fun v s1 hh=>ex5 hh fun x H1 I1 r1 q1=>ho aa s1 σ H1 x v Q I1 r1 q1)
theorem opI {f:Value->Value->Sem Value}{C:Int->Int->Prop}{g:Int->Int->Int}
  (rule:∀(i j:Int) (t u:Tok) (s:Shared) (Q:Value->Shared->Prop) (E:Value->Shared->Prop),C i j->Q (.int (g i j) s.toks) { s with toks:=s.toks+1 }->wpAny (model X.prog X.w) X.A (f (.int i t) (.int j u)) Q E s) :
  OpR X f (rI C fun i j=>.int (g i j)):=by
 intro aa s σ H x y v u Q I rx ry h
 obtain⟨i,j,rfl,rfl,hc,q⟩:=h
 obtain⟨t,rfl⟩:=rx
 obtain⟨t',rfl⟩:=ry
 exact rule i j t t' s _ _ hc ⟨.int (g i j),H,I.tok _,⟨_,rfl⟩,q⟩
theorem sU {f:Value->Value->Sem Value}{g:Int->Int->Int}
  (rule:∀(i j:Int) (t u:Tok) (s:Shared) (Q:Value->Shared->Prop) (E:Value->Shared->Prop),Q (.int (g i j) s.toks) { s with toks:=s.toks+1 }->wpAny (model X.prog X.w) X.A (f (.int i t) (.int j u)) Q E s) :
  OpR X f (rI0 fun i j=>.int (g i j)):=by
 intro aa s σ H x y v u Q I rx ry h
 obtain⟨i,j,rfl,rfl,q⟩:=h
 obtain⟨t,rfl⟩:=rx
 obtain⟨t',rfl⟩:=ry
 exact rule i j t t' s _ _ ⟨.int (g i j),H,I.tok _,⟨_,rfl⟩,q⟩
theorem wy {f:Value->Value->Sem Value}{g:Int->Int->Bool}
  (rule:∀(i j:Int) (t u:Tok) (s:Shared) (Q:Value->Shared->Prop) (E:Value->Shared->Prop),Q (.bool (g i j)) s->wpAny (model X.prog X.w) X.A (f (.int i t) (.int j u)) Q E s) :
  OpR X f (rI0 fun i j=>.bl (g i j)):=by
 intro aa s σ H x y v u Q I rx ry h
 obtain⟨i,j,rfl,rfl,q⟩:=h
 obtain⟨t,rfl⟩:=rx
 obtain⟨t',rfl⟩:=ry
 exact rule i j t t' s _ _ ⟨.bl (g i j),H,I,rfl,q⟩
def EB (i j:Int):Prop:=0<j∧j<1073741824
def EC (i j:Int):Prop:=0≤j∧j≤1000000∧i.natAbs<2 ^ 64
def wz (i j:Int):Prop:=(-(2 ^ 64)<i∧i<2 ^ 64)∨(-(2 ^ 64)<j∧j<2 ^ 64)
theorem wz.ok {i j:Int}(h:wz i j):IntMulOk i j:=by
 rcases h with⟨h1,h2⟩|⟨h1,h2⟩
 ·exact .of_left (intBits_le_64 h1 h2)
 ·exact .of_right (intBits_le_64 h1 h2)
theorem ck:OpR X (binaryOp .Add) (rI0 fun i j=>.int (i+j)):=sU fun _ _ _ _ _ _ _ q=>add_int q
theorem uG:OpR X (binaryOp .Sub) (rI0 fun i j=>.int (i-j)):=sU fun _ _ _ _ _ _ _ q=>sub_int q
theorem oy:OpR X (binaryOp .Mult) (rI wz fun i j=>.int (i*j)):=opI fun _ _ _ _ _ _ _ hc q=>mul_int q hc.ok
theorem gJ:OpR X (binaryOp .FloorDiv) (rI EB fun i j=>.int (i / j)):=opI fun i j _ _ _ _ _ hc q=>by
 have h1:(0:Int)<j:=hc.1
 have h2:j<1073741824:=hc.2
 exact floordiv_int (by lia) (by rw[Int.fdiv_eq_ediv_of_nonneg i (by lia)];exact q) (.inl (PyProof.noPylong_small (by lia)))
theorem cB:OpR X (binaryOp .Mod) (rI (fun _ j=>0<j) fun i j=>.int (i % j)):=opI fun i j _ _ _ _ _ hc q=>by
 have h1:(0:Int)<j:=hc
 exact mod_int' (by lia) (by rw[Int.fmod_eq_emod_of_nonneg i (by lia)];exact q)
theorem uH:OpR X (binaryOp .LShift) (rI EC fun i j=>.int (i*2 ^ j.toNat)):=opI fun _ _ _ _ _ _ _ hc q=>lshift_int_small hc.1 hc.2.1 hc.2.2 q
theorem Ao:OpR X (binaryOp .BitAnd) (rI0 fun i j=>.int (Builtin.bitAnd i j)):=sU fun _ _ _ _ _ _ _ q=>and_int q
theorem Dt:OpR X (binaryOp .BitOr) (rI0 fun i j=>.int (Builtin.bitOr i j)):=sU fun _ _ _ _ _ _ _ q=>or_int q
theorem unI {f:Value->Sem Value}{g:Int->Int}
  (rule:∀(i:Int) (t:Tok) (s:Shared) (Q:Value->Shared->Prop) (E:Value->Shared->Prop),Q (.int (g i) s.toks) { s with toks:=s.toks+1 }->wpAny (model X.prog X.w) X.A (f (.int i t)) Q E s) :
  UnR X f (rU fun i=>.int (g i)):=by
 intro aa s σ H x v Q I rx h
 obtain⟨i,rfl,q⟩:=h
 obtain⟨t,rfl⟩:=rx
 exact rule i t s _ _ ⟨.int (g i),H,I.tok _,⟨_,rfl⟩,q⟩
theorem oz:UnR X (unaryOp .USub) (rU fun i=>.int (-i)):=unI fun _ _ _ _ _ q=>neg_int q
end
def Ap:V->V->Bool
 | .int _,.int _=>true | .bl _,.bl _=>true | .str _,.str _=>true
 | _,_=>false
def rEq:R2:=fun x y H Q=>Ap x y=true∧Q (.bl (decide (x=y))) H
def rNe:R2:=fun x y H Q=>Ap x y=true∧Q (.bl (!decide (x=y))) H
theorem rF {i j:Int}:decide (V.int i=V.int j)=(i==j):=by
 rw[Bool.eq_iff_iff]
 simp
theorem uI {i j:Bool}:decide (V.bl i=V.bl j)=(i==j):=by
 rw[Bool.eq_iff_iff]
 simp
theorem rG {i j:Str}:decide (V.str i=V.str j)=(i==j):=by
 rw[Bool.eq_iff_iff]
 simp
section
variable {X:Cx}{a b c:Expr}{ta tb tc:TE}{pos:Pos}
theorem eJ {aa:List (Addr×Obj)}{σ:St}{H:Hp}{s:Shared}{Q:VK}{k k':Bool}(I:Inv X aa σ H s) (q:Q (.bl k) H) (e:k=k'):EP X aa σ Q (.bool k') s:=by
 subst e
 exact⟨.bl k,H,I,rfl,q⟩
theorem dz:OpR X (compareOp .Eq) rEq:=by
 intro aa s σ H x y v u Q I rx ry h
 obtain⟨hs,q⟩:=h
 cases x <;> cases y <;> first|exact absurd (show false=true from hs) Bool.false_ne_true|skip
 ·cases rx;cases ry;exact eq_bool (eJ I q uI)
 ·obtain⟨t,rfl⟩:=rx;obtain⟨t',rfl⟩:=ry;exact eq_int (eJ I q rF)
 ·obtain⟨t,rfl⟩:=rx;obtain⟨t',rfl⟩:=ry;exact eq_str (eJ I q rG)
theorem fm:OpR X (compareOp .NotEq) rNe:=by
 intro aa s σ H x y v u Q I rx ry h
 obtain⟨hs,q⟩:=h
 cases x <;> cases y <;> first|exact absurd (show false=true from hs) Bool.false_ne_true|skip
 ·cases rx;cases ry;exact ne_bool (eJ I q (congrArg not uI))
 ·obtain⟨t,rfl⟩:=rx;obtain⟨t',rfl⟩:=ry;exact ne_int (eJ I q (congrArg not rF))
 ·obtain⟨t,rfl⟩:=rx;obtain⟨t',rfl⟩:=ry;exact ne_str (eJ I q (congrArg not rG))
theorem jl:OpR X (compareOp .Lt) (rI0 fun i j=>.bl (decide (i<j))):=wy fun _ _ _ _ _ _ _ q=>lt_int q
theorem kC:OpR X (compareOp .LtE) (rI0 fun i j=>.bl (decide (i≤j))):=wy fun _ _ _ _ _ _ _ q=>le_int q
theorem x8:OpR X (compareOp .Gt) (rI0 fun i j=>.bl (decide (j<i))):=wy fun _ _ _ _ _ _ _ q=>gt_int q
theorem my:OpR X (compareOp .In) (fun x y H Q=>∃i j,x=.str i∧y=.str j∧Q (.bl (!(Builtin.Str.occurrences j i 0 j.length 1).isEmpty)) H):=by
 intro aa s σ H x y v u Q I rx ry h
 obtain⟨i,j,rfl,rfl,q⟩:=h
 obtain⟨t,rfl⟩:=rx
 obtain⟨t',rfl⟩:=ry
 exact in_str (eJ I q rfl)
theorem iQ:OpR X (compareOp .Is) (fun x y H Q=>y=.non∧Q (.bl (decide (x=.non))) H):=by
 intro aa s σ H x y v u Q I rx ry h
 obtain⟨rfl,q⟩:=h
 cases ry
 refine is_none_gen (eJ I q ?_)
 cases x <;> first
  | (cases rx;rfl)
  | (obtain⟨t,rfl⟩:=rx;rfl)
theorem rH:OpR X (compareOp .IsNot) (fun x y H Q=>y=.non∧Q (.bl (!decide (x=.non))) H):=by
 intro aa s σ H x y v u Q I rx ry h
 obtain⟨rfl,q⟩:=h
 cases ry
 refine isnot_none_gen (eJ I q ?_)
 cases x <;> first
  | (cases rx;rfl)
  | (obtain⟨t,rfl⟩:=rx;rfl)
theorem aM (b:Expr) {op:CmpOp}(h:op≠.In:=by decide) (h2:op≠.NotIn:=by decide):behindInMarks op b=false:=by
 have e1:(op==CmpOp.In)=false:=by cases op <;> first|rfl|exact absurd rfl h
 have e2:(op==CmpOp.NotIn)=false:=by cases op <;> first|rfl|exact absurd rfl h2
 cases b <;> simp[behindInMarks,e1,e2]
theorem dA {op:CmpOp}{r:R2}(ho:OpR X (compareOp op) r) (ha:PE X a ta) (hb:PE X b tb) (hm:behindInMarks op b=false):PE X (.Compare a [op] [b] pos) (tOp r ta tb):=by
 intro aa s σ H Q I h
 exact wpAny_Compare1 (wx ha hb I h fun v u s2 x y H2 I2 rx ry q=>ho aa s2 σ H2 x y v u Q I2 rx ry q) hm
def x9 (t:TE):TT:=fun σ H Q=>t σ H fun x H'=>∃k,x=.bl k∧Q k H'
theorem aI {op:CmpOp}{r:R2}(ho:OpR X (compareOp op) r) (ha:PE X a ta) (hb:PE X b tb) (hm:behindInMarks op b=false):PT X (.Compare a [op] [b] pos) (x9 (tOp r ta tb)):=by
 intro aa s σ H Q I h
 refine wpAny_isTrue_Compare1 (thn (ha aa s σ H _ I h) fun v s1 hh=>ex5 hh fun x H1 I1 r1 q1=>thn (hb aa s1 σ H1 _ I1 q1) fun u s2 hh=>ex5 hh fun y H2 I2 r2 q2=>
  thn (ho aa s2 σ H2 x y v u _ I2 r1 r2 q2) fun c s3 ⟨z,H3,I3,r3,k,e,q3⟩=>?_) hm
 subst e
 cases r3
 exact wpAny_truthy_bool ⟨H3,I3,q3⟩
def uJ (r r':R2) (ta tb tc:TE):TE:=fun σ H Q=>ta σ H fun x H1=>tb σ H1 fun y H2=>r x y H2 fun z H3=>∃k,z=.bl k∧
 (if k=true then tc σ H3 fun w' H4=>r' y w' H4 Q else Q (.bl false) H3)
theorem wA {op op':CmpOp}{r r':R2}(ho:OpR X (compareOp op) r) (ho':OpR X (compareOp op') r') (ha:PE X a ta) (hb:PE X b tb) (hc:PE X c tc)
  (hm:lastMarks [op,op'] [b,c]=false:=by with_unfolding_all rfl):PE X (.Compare a [op,op'] [b,c] pos) (uJ r r' ta tb tc):=by
 intro aa s σ H Q I h
 refine Compare_chain (thn (ha aa s σ H _ I h) fun v s1 hh=>ex5 hh fun x H1 I1 r1 q1=>chain_link (thn (hb aa s1 σ H1 _ I1 q1) fun u s2 hh=>ex5 hh fun y H2 I2 r2 q2=>
  thn (ho aa s2 σ H2 x y v u _ I2 r1 r2 q2) fun d s3 ⟨z,H3,I3,r3,k,e,q3⟩=>?_)) hm
 subst e
 cases r3
 refine wpAny_truthy_bool ?_
 cases k with
 | false=>exact ite_ff ⟨.bl false,H3,I3,rfl,q3⟩
 | true=>exact ite_tt (chain_last (thn (hc aa s3 σ H3 _ I3 q3) fun w' s4 ⟨z',H4,I4,r4,q4⟩=>ho' aa s4 σ H4 y z' u w' Q I4 r2 r4 q4))
theorem hR {op op':CmpOp}{r r':R2}(ho:OpR X (compareOp op) r) (ho':OpR X (compareOp op') r') (ha:PE X a ta) (hb:PE X b tb) (hc:PE X c tc)
  (hm:lastMarks [op,op'] [b,c]=false:=by with_unfolding_all rfl):PT X (.Compare a [op,op'] [b,c] pos) (x9 (uJ r r' ta tb tc)):=by
 intro aa s σ H Q I h
 refine isTrue_chain (thn (ha aa s σ H _ I h) fun v s1 hh=>ex5 hh fun x H1 I1 r1 q1=>test_link (thn (hb aa s1 σ H1 _ I1 q1) fun u s2 hh=>ex5 hh fun y H2 I2 r2 q2=>
  thn (ho aa s2 σ H2 x y v u _ I2 r1 r2 q2) fun d s3 ⟨z,H3,I3,r3,k,e,q3⟩=>?_)) hm
 subst e
 cases r3
 refine wpAny_truthy_bool ?_
 cases k with
 | false=>
  obtain⟨k',e',q'⟩:=q3
  cases e'
  exact ite_ff ⟨H3,I3,q'⟩
 | true=>
  refine ite_tt (test_last (thn (hc aa s3 σ H3 _ I3 q3) fun w' s4 ⟨z',H4,I4,r4,q4⟩=>thn (ho' aa s4 σ H4 y z' u w' _ I4 r2 r4 q4) fun d' s5 ⟨z2,H5,I5,r5,k2,e2,q5⟩=>?_))
  subst e2
  cases r5
  exact wpAny_truthy_bool ⟨H5,I5,q5⟩
def Aq (K:W.Frag) (x:V) (H:Hp) (k:Bool):Prop:=
 match x with
 | .non=>k=false
 | .bl b=>k=b
 | .int i=>k=(i != 0)
 | .str y=>y.length≤sizeLine∧k=((y.length:Int) != 0)
 | .byt y=>y.size≤sizeLine∧k=((y.size:Int) != 0)
 | .ref p=>(∃xs,SqL K H p xs∧k=!xs.isEmpty)∨(∃xs,SqT K H p xs∧k=!xs.isEmpty)∨∃kvs,H p=some (.dK kvs)∧k=!kvs.isEmpty
 | _=>False
theorem sV {κ:Type}{kvs:List (κ×V)}{vs:List (κ×Value)}(r:KV kvs vs):(!vs.isEmpty)=!kvs.isEmpty:=by
 cases r <;> rfl
theorem kD {xs:List V}{its:List Value}(r:av xs its):(!its.toArray.isEmpty)=!xs.isEmpty:=by
 cases r <;> simp
theorem gK:(sizeLine:Nat)<2 ^ 63:=by rw[sizeLine_eq];decide
theorem Ar:EA X (fun x H Q=>∃k,Aq X.K x H k∧Q k H):=by
 intro aa s σ H x v Q I rx h
 obtain⟨k,e,q⟩:=h
 have hl:=gK
 have hs:sizeLine=16777216:=sizeLine_eq
 cases x with
 | non=>
  cases rx
  have e':k=false:=e
  subst e'
  exact truthy_none ⟨H,I,q⟩
 | bl b=>
  cases rx
  have e':k=b:=e
  subst e'
  exact wpAny_truthy_bool ⟨H,I,q⟩
 | int i=>
  obtain⟨t,rfl⟩:=rx
  have e':k=(i != 0):=e
  subst e'
  exact PySem.P.truthy_int ⟨H,I,q⟩
 | str y=>
  obtain⟨t,rfl⟩:=rx
  obtain⟨hy,e'⟩:y.length≤sizeLine∧k=((y.length:Int) != 0):=e
  subst e'
  exact PySem.P.truthy_str (by lia) ⟨H,I.tok _,q⟩
 | byt y=>
  obtain⟨t,rfl⟩:=rx
  obtain⟨hy,e'⟩:y.size≤sizeLine∧k=((y.size:Int) != 0):=e
  subst e'
  exact W.truthy_bytes (by lia) ⟨H,I.tok _,q⟩
 | ref p=>
  cases rx
  have e':(∃xs,SqL X.K H p xs∧k=!xs.isEmpty)∨(∃xs,SqT X.K H p xs∧k=!xs.isEmpty)∨∃kvs,H p=some (.dK kvs)∧k=!kvs.isEmpty:=e
  rcases e' with⟨xs,hx,e'⟩|⟨xs,hx,e'⟩|⟨kvs,hx,e'⟩
  ·subst e'
   obtain⟨its,r,pl,hz⟩:=I.list hx
   have hlen:=r.length
   exact wpAny_truthy_list pl.isList (by simp only[List.size_toArray];lia) ⟨H,I.tok _,by rw[kD r];exact q⟩
  ·subst e'
   obtain⟨its,r,pl,hz⟩:=I.tuple hx
   have hlen:=r.length
   exact truthy_tuple pl (by simp only[List.size_toArray];lia) ⟨H,I.tok _,by rw[kD r];exact q⟩
  ·subst e'
   obtain⟨hz,hS,vs,r,m⟩:kvs.length≤sizeLine∧(p==sysModules)=false∧∃vs,KV kvs vs∧s.heap.DictOf (aX X.prog X.w) p vs:=I.hok p _ hx
   have hlen:kvs.length=vs.length:=Paired.length r
   exact wpAny_truthy_dict hS m (by lia) ⟨H,I.tok _,by rw[sV r];exact q⟩
 | _=>exact(show False from e).elim
theorem oA (ha:PE X a ta) (he:∀whole,isTrue a X.env whole=(do let v ←whole;standAt a.pos;holding [v] (truthy v))) :
  PT X a (fun σ H Q=>ta σ H fun x H'=>∃k,Aq X.K x H' k∧Q k H'):=by
 intro aa s σ H Q I h
 exact isTrue_plain (thn (ha aa s σ H _ I h) fun v s1 hh=>ex5 hh fun x H1 I1 r1 q1=>Ar aa s1 σ H1 x v Q I1 r1 q1) (he _)
theorem bL:OpR X (binaryOp .Add) (fun x y H Q=>∃i j,x=.str i∧y=.str j∧i.length+j.length≤sizeLine∧Q (.str (i++j)) H):=by
 intro aa s σ H x y v u Q I rx ry h
 obtain⟨i,j,rfl,rfl,hz,q⟩:=h
 obtain⟨t,rfl⟩:=rx
 obtain⟨t',rfl⟩:=ry
 exact add_str (fun t' tk=>⟨.str (i++j),H,I.tok _,⟨_,rfl⟩,q⟩) hz
theorem dB {x:V}{us:List Value}(r:av [x] us):∃u,us=[u]∧az x u:=by
 cases r with
 | cons r1 r2=>cases r2;exact⟨_,rfl,r1⟩
theorem dc:cm X (.type "str") (fun xs H Q=>∃i,xs=[.int i]∧i.natAbs.log2<1920∧Q (.str (toString i)) H):=by
 intro aa s σ H xs us Q I r h
 obtain⟨i,rfl,hz,q⟩:=h
 obtain⟨u,rfl,t,rfl⟩:=dB r
 exact PySem.P.str_of_int hz ⟨.str _,H,I.tok _,⟨_,rfl⟩,q⟩
end
end L2
namespace L2
open PySem PySem.Spec PyProof.Rows
structure ObjM (h:Heap) (x dx C:Addr) (mA:Str->Option Value):Prop where
 obj:h.get? x=some (W.instObj C dx)
 ns:h.Ns1 dx mA
 ne:dx≠x
theorem uK {h:Heap}{dx:Addr}{mA:Str->Option Value}(n:h.Ns1 dx mA):∃od,h.get? dx=some od∧∀name,W.lookIn name od=some (mA name):=by
 obtain⟨o,es,ep,ho,hd,hk,_,hm⟩:=n
 refine⟨o,ho,fun name=>?_⟩
 have e:=hm name
 unfold nsFind findBy at e
 rw[←Array.find?_toList] at e
 unfold W.lookIn
 rw[hd]
 dsimp only
 split
 ·rename_i y q
  rw[q] at e
  exact congrArg some e
 ·rename_i q
  rw[q] at e
  have a:es.toList.any (·.refKey)=false:=by
   rw[List.any_eq_false]
   intro y hy
   obtain⟨z,t,hkey⟩:=hk y (Array.mem_toList_iff.mp hy)
   simp[DictEntry.refKey,hkey]
  have a':¬es.toList.any (·.refKey)=true:=by rw[a];exact Bool.false_ne_true
  rw[if_neg a']
  exact congrArg some e
theorem ObjM.look {h:Heap}{x dx C:Addr}{mA:Str->Option Value}(I:ObjM h x dx C mA):∃od,W.InstAt h x (W.instObj C dx) C (some od)∧∀name,W.lookIn name od=some (mA name):=
 let ⟨od,ho,hl⟩:=uK I.ns
 ⟨od,⟨I.obj,rfl,rfl,ho⟩,hl⟩
section
variable {prog:Program}{w:World}{A:Around}{E:Value->Shared->Prop}{s:Shared}{K:W.Frag}{x dx C f:Addr}{mA:Str->Option Value}{name:Str}{v:Value}
theorem yK {expr:Bool}{Q:Value->Shared->Prop}(X:K.In s.heap) (I:ObjM s.heap x dx C mA) (hg:W.plainGet K C name=true) (hh:W.hasDictIn K C=true)
  (ha:W.findIn K (.ref C) name=some none) (hv:mA name=some v) (hv':W.handedIn v=true) (h:Q v { s with toks:=s.toks+1 }) :
  wpAny (model prog w) A (getAttr (.ref x) name expr) Q E s:=by
 obtain⟨od,J,hl⟩:=I.look
 exact W.get_value X J (W.plainGet_of hg).1 (W.findObj_own hh ha rfl (by rw[hl,hv])) hv' h
theorem wB {pl:Sem Bool}{Q:Value×List Value->Shared->Prop}(X:K.In s.heap) (I:ObjM s.heap x dx C mA) (hg:W.plainGet K C name=true)
  (hf:W.findIn K (.ref C) name=some (some (.ref f))) (ht:W.isFn K (.ref f)=true) (hv:mA name=none) (h:Q (.ref f,[.ref x]) s) :
  wpAny (model prog w) A (getMethod (.ref x) name pl) Q E s:=by
 obtain⟨od,J,hl⟩:=I.look
 exact W.method_fn X J (W.plainGet_of hg).1 (W.plainGet_of hg).2 hf (beq_iff_eq.mp ht) (by show(W.lookIn name od).map (·.isSome)=some false;rw[hl,hv];rfl) h
theorem yL {ns:List Str}{Q:Unit->Shared->Prop}(X:K.In s.heap) (I:ObjM s.heap x dx C mA)
  (hs:W.findIn K (.ref C) "__setattr__"=some (some (.builtin "object.__setattr__"))) (hp:W.plainOver K C=true) (ht:W.takerIn K C name=some none) (hh:W.hasDictIn K C=true)
  (hw:PySem.Within mA ns) (hsz:ns.length≤sizeLine)
  (h:∀h',ObjM h' x dx C (fun y=>if y=name then some v else mA y)->Heap.SameBut dx s.heap h'->Q () { s with heap:=h',toks:=s.toks+2 }) :
  wpAny (model prog w) A (setAttr (.ref x) name v) Q E s:=by
 obtain⟨od,J,hl⟩:=I.look
 refine W.set_plain X J hs (W.osa_open (s:={ s with toks:=s.toks+1 }) (r:=none) X J hp ht fun b=>?_)
 obtain⟨cd,hc,hd'⟩:=W.any_some hh
 have hx:s.heap.get? x=some ⟨.ref C,some dx,.plain,#[]⟩:=I.obj
 refine wpAny_bind (wpAny_pure (wpAny_bind (wpAny_bind (wpAny_loadPart hx (wpAny_bind (W.Looks.here (s:={ s with toks:=s.toks+1 }) (W.looks_clsIn X hc) ?_))))))
 rw[hd']
 refine wpAny_pure (a:=some dx) (wpAny_bind (wpAny_pure (wpAny_bind ?_)))
 refine wpAny_nsSet1 (s:={ s with toks:=s.toks+1 }) I.ns fun h' hn2 hs2=>?_
 obtain⟨oD,esD,epD,hoD,hdD,hcD⟩:=hn2.count (PySem.Within.cons name v hw)
 refine wpAny_bind (wpAny_lookBehind hoD (by rw[hdD];exact pastItsLine_dict (Nat.le_trans hcD (by rw[List.length_cons];lia))) ?_)
 exact wpAny_pure (h _ ⟨(hs2.2 _ (Ne.symm I.ne)).trans I.obj,hn2,I.ne⟩ hs2)
theorem wC {R:Result->Shared->Prop}{vs:List Value}{kw:List (Str×Value)}(X:K.In s.heap) (hm:W.makesIn K C=true)
  (hi:W.findIn K (.ref C) "__init__"=some (some (.ref f))) (hf:W.typeIn K (.ref f)=some (.type "function"))
  (h:codeAny (model prog w) (A.under (.builtin "type.__call__" ⟨.ref C::vs,kw⟩)) (.call (.ref f) ⟨.ref (s.heap.objs.size+1)::vs,kw⟩) (W.InitBack (s.heap.objs.size+1) R)
   { s with heap:=(s.heap.push W.emptyDict).push (W.instObj C s.heap.objs.size) }) :
  codeAny (model prog w) A (.call (.ref C) ⟨vs,kw⟩) R s:=by
 obtain⟨hh,g,d,t,os⟩:=s
 exact W.make_core (W.makes_of X hm) (W.looks_findIn X hi) (fun self=>W.bind_fn X self hf) (.inl rfl) h
end
def dI (f:Str) (v:V):List (Str×V)->List (Str×V)
 | []=>[(f,v)]
 | (g,x)::r=>if g=f then (g,v)::r else (g,x)::dI f v r
theorem jQ (f g:Str) (v:V):∀fs:List (Str×V),(dI f v fs).lookup g=if g=f then some v else fs.lookup g
 | []=>by
  show List.lookup g [(f,v)]=_
  by_cases h:g=f
  ·have hb:(g==f)=true:=beq_iff_eq.mpr h
   simp only[List.lookup,hb,if_pos h]
  ·have hb:(g==f)=false:=beq_eq_false_iff_ne.mpr h
   simp only[List.lookup,hb,if_neg h]
 | (k,x)::r=>by
  have ih:=jQ f g v r
  rw[show dI f v ((k,x)::r)=(if k=f then (k,v)::r else (k,x)::dI f v r) from rfl]
  by_cases hk:k=f
  ·rw[if_pos hk]
   by_cases h:g=k
   ·have hb:(g==k)=true:=beq_iff_eq.mpr h
    simp only[List.lookup,hb,if_pos (h.trans hk)]
   ·have hb:(g==k)=false:=beq_eq_false_iff_ne.mpr h
    simp only[List.lookup,hb,if_neg (fun e:g=f=>h (e.trans hk.symm))]
  ·rw[if_neg hk]
   by_cases h:g=k
   ·have hb:(g==k)=true:=beq_iff_eq.mpr h
    simp only[List.lookup,hb,if_neg (fun e:g=f=>hk (h.symm.trans e))]
   ·have hb:(g==k)=false:=beq_eq_false_iff_ne.mpr h
    simp only[List.lookup,hb]
    exact ih
theorem iR (f:Str) (v:V):∀fs:List (Str×V),f∈(dI f v fs).map (·.1)∧∀g,g∈fs.map (·.1)->g∈(dI f v fs).map (·.1)
 | []=>⟨by simp[dI],fun g h=>by simp at h⟩
 | (k,x)::r=>by
  obtain⟨i1,i2⟩:=iR f v r
  rw[show dI f v ((k,x)::r)=(if k=f then (k,v)::r else (k,x)::dI f v r) from rfl]
  by_cases hk:k=f
  ·rw[if_pos hk]
   subst hk
   exact⟨by simp,fun g h=>by simpa using h⟩
  ·rw[if_neg hk]
   refine⟨?_,fun g h=>?_⟩
   ·rw[List.map_cons]
    exact List.mem_cons_of_mem _ i1
   ·rw[List.map_cons] at h ⊢
    rcases List.mem_cons.mp h with e|e
    ·exact List.mem_cons.mpr (.inl e)
    ·exact List.mem_cons_of_mem _ (i2 g e)
theorem jR (f:Str) (v:V):∀fs:List (Str×V),(dI f v fs).length≤fs.length+1
 | []=>by simp[dI]
 | (k,x)::r=>by
  have ih:=jR f v r
  rw[show dI f v ((k,x)::r)=(if k=f then (k,v)::r else (k,x)::dI f v r) from rfl]
  by_cases hk:k=f
  ·rw[if_pos hk,List.length_cons,List.length_cons];lia
  ·rw[if_neg hk,List.length_cons,List.length_cons];lia
theorem dH.some_of {v:V}{o:Option Value}(r:dH (some v) o):∃u,o=some u∧az v u:=by
 cases o with
 | none=>exact(show False from r).elim
 | some u=>exact⟨u,rfl,r⟩
theorem dH.none_of {o:Option Value}(r:dH none o):o=none:=by
 cases o with
 | none=>rfl
 | some u=>exact(show False from r).elim
theorem uL {v:V}{u:Value}(r:az v u):W.handedIn u=true:=by
 cases v with
 | non=>cases (show u=Value.none from r);rfl
 | bl b=>cases (show u=Value.bool b from r);rfl
 | int i=>obtain⟨t,e⟩:=(show ∃t,u=Value.int i t from r);cases e;rfl
 | str x=>obtain⟨t,e⟩:=(show ∃t,u=Value.str x t from r);cases e;rfl
 | byt b=>obtain⟨t,e⟩:=(show ∃t,u=Value.bytes b t from r);cases e;rfl
 | flt b=>obtain⟨t,e⟩:=(show ∃t,u=Value.float b t from r);cases e;rfl
 | ref a=>cases (show u=Value.ref a from r);rfl
 | ty n=>cases (show u=Value.type n from r);rfl
section
variable {P:Program}{w:World}{H H':Hp}{h h':Heap}{a C dx:Addr}{fs fs':List (Str×V)}
theorem jm (hok:HOk P w H h) (e:H a=some (.ins C dx fs)):∃mA,ObjM h a dx C mA∧(∀f,dH (fs.lookup f) (mA f))∧PySem.Within mA (fs.map (·.1))∧fs.length≤1000∧H dx=some (.own a):=by
 obtain⟨d,z,ne,ob,mA,n,r,q⟩:=(show aS P w H h a (.ins C dx fs) from hok a _ e)
 exact⟨mA,⟨ob,n,ne⟩,r,q,z,d⟩
end
structure Cls (K:W.Frag) (C:Addr):Prop where
 pg:W.plainGet K C Str.empty=true
 hd:W.hasDictIn K C=true
 po:W.plainOver K C=true
 sa:W.findIn K (.ref C) "__setattr__"=some (some (.builtin "object.__setattr__"))
theorem Cls.get {K:W.Frag}{C:Addr}(c:Cls K C) (f:Str):W.plainGet K C f=true:=c.pg
def fw (K:W.Frag) (C:Addr) (f:Str):Prop:=W.findIn K (.ref C) f=some none
theorem fw.taker {K:W.Frag}{C:Addr}{f:Str}(n:fw K C f):W.takerIn K C f=some none:=by
 unfold W.takerIn
 rw[show W.findIn K (.ref C) f=some none from n]
 rfl
structure Meth (K:W.Frag) (C:Addr) (m:Str) (f:Addr):Prop where
 at_:W.findIn K (.ref C) m=some (some (.ref f))
 fn:W.isFn K (.ref f)=true
 kp:W.keepIn K (.ref f)=true
section
variable {X:Cx}{aa:List (Addr×Obj)}{σ:St}{H:Hp}{s:Shared}{a C dx:Addr}{fs:List (Str×V)}{f:Str}{v:V}{A:Around}{E:Value->Shared->Prop}
theorem sW {b:Bool}{Q:Value->Shared->Prop}(I:Inv X aa σ H s) (e:H a=some (.ins C dx fs)) (c:Cls X.K C) (n:fw X.K C f) (l:fs.lookup f=some v)
  (h:∀u s',Inv X aa σ H s'->az v u->Q u s'):wpAny (model X.prog X.w) A (getAttr (.ref a) f b) Q E s:=by
 obtain⟨mA,O,r,_,_,_⟩:=jm I.hok e
 obtain⟨u,hu,ru⟩:=dH.some_of (v:=v) (o:=mA f) (by rw[←l];exact r f)
 exact yK I.kIn O (c.get f) c.hd n hu (uL ru) (h u _ (I.tok _) ru)
theorem sX {m:Str}{g:Addr}{pl:Sem Bool}{Q:Value×List Value->Shared->Prop}(I:Inv X aa σ H s) (e:H a=some (.ins C dx fs)) (c:Cls X.K C) (k:Meth X.K C m g) (l:fs.lookup m=none)
  (h:Q (.ref g,[.ref a]) s):wpAny (model X.prog X.w) A (getMethod (.ref a) m pl) Q E s:=by
 obtain⟨mA,O,r,_,_,_⟩:=jm I.hok e
 have hn:mA m=none:=dH.none_of (by rw[←l];exact r m)
 exact wB I.kIn O (c.get m) k.at_ k.fn hn h
theorem sY {y:V}{u:Value}{Q:Unit->Shared->Prop}(I:Inv X aa σ H s) (e:H a=some (.ins C dx fs)) (c:Cls X.K C) (n:fw X.K C f) (hl:fs.length<1000) (ry:az y u)
  (h:∀s',Inv X aa σ (upd H a (.ins C dx (dI f y fs))) s'->Q () s'):wpAny (model X.prog X.w) A (setAttr (.ref a) f u) Q E s:=by
 obtain⟨mA,O,r,wi,_,ho⟩:=jm I.hok e
 have hz:(fs.map (·.1)).length≤sizeLine:=by rw[List.length_map,sizeLine_eq];lia
 refine yL I.kIn O c.sa c.po n.taker c.hd wi hz fun h' O' sb=>h _ ?_
 have hd:∃o,h'.get? dx=some o:=let ⟨o,_,_,e',_⟩:=O'.ns;⟨o,e'⟩
 refine I.write (x:=a) (e:=dx) (by rw[e];exact True.intro) (.inr ho) (fun b q hb z=>(sb.2 b hb).trans z) hd ?_
 refine⟨by rw[ap O.ne];exact ho,?_,O.ne,O'.obj,_,O'.ns,fun g=>?_,fun g hg=>?_⟩
 ·have:=jR f y fs;lia
 ·show dH ((dI f y fs).lookup g) (if g=f then some u else mA g)
  rw[jQ]
  by_cases q:g=f
  ·rw[if_pos q,if_pos q];exact ry
  ·rw[if_neg q,if_neg q];exact r g
 ·by_cases q:g=f
  ·rw[q];exact(iR f y fs).1
  ·refine(iR f y fs).2 g (wi g fun z=>hg ?_)
   show(if g=f then some u else mA g)=none
   rw[if_neg q];exact z
theorem Inv.made (I:Inv X aa σ H s):Inv X aa σ (upd (upd H s.heap.objs.size (.own (s.heap.objs.size+1))) (s.heap.objs.size+1) (.ins C s.heap.objs.size []))
  { s with heap:=(s.heap.push W.emptyDict).push (W.instObj C s.heap.objs.size) }:=by
 have e1:(s.heap.push W.emptyDict).get? s.heap.objs.size=some W.emptyDict:=Heap.get?_push_size s.heap rfl
 have e2:((s.heap.push W.emptyDict).push (W.instObj C s.heap.objs.size)).get? (s.heap.objs.size+1)=some (W.instObj C s.heap.objs.size):=by
  have:=Heap.get?_push_size (s.heap.push W.emptyDict) (o:=W.instObj C s.heap.objs.size) rfl
  rwa[Heap.size_push] at this
 have e3:(s.heap.push W.emptyDict).Ns s.heap.objs.size (fun _=>none):=⟨W.emptyDict,#[],_,e1,rfl,(fun e he=>absurd he (by simp)),fun _=>rfl⟩
 have I1:=I.laid (a:=s.heap.objs.size) (o:=.own (s.heap.objs.size+1)) (h':=s.heap.push W.emptyDict) (t':=s.toks) (fun b u q=>Heap.get?_push_of_some _ q) (Nat.le_refl _) ⟨_,e1⟩
 refine I1.laid (a:=s.heap.objs.size+1) (o:=.ins C s.heap.objs.size []) (t':=s.toks) (fun b u q=>Heap.get?_push_of_some _ q) (Nat.le_of_eq (Heap.size_push _ _)) ?_
 have ne:s.heap.objs.size≠s.heap.objs.size+1:=Nat.ne_of_lt (Nat.lt_succ_self _)
 refine⟨by rw[ap ne,ag],Nat.zero_le _,ne,e2,fun _=>none,(Heap.Ns1.of_empty e3).at fun o q=>Heap.get?_push_of_some _ q,fun _=>True.intro,fun y hy=>absurd rfl hy⟩
theorem yM {prog:Program}{w:World}{env:Env}{e:Expr}{f:Str}{pos:Pos}{s:Shared}{Q:Value->Shared->Prop}(hb:attributeBase e f env (eval e env)=eval e env)
  (h:wpAny (model prog w) A (eval e env) (fun o s₁=>wpAny (model prog w) A (getAttr o f true) Q E s₁) E s):wpAny (model prog w) A (eval (.Attribute e f pos) env) Q E s:=
 Attribute_any_ h (by rw[arm_eval_Attribute,hb])
end
def ED (K:W.Frag) (ta:TE) (f:Str):TE:=fun σ H Q=>ta σ H fun x H1=>∃a C dx fs v,x=.ref a∧H1 a=some (.ins C dx fs)∧Cls K C∧fw K C f∧fs.lookup f=some v∧Q v H1
def EE (K:W.Frag) (ta tv:TE) (f:Str):TS:=fun D σ H=>tv σ H fun y H1=>ta σ H1 fun x H2=>∃a C dx fs,x=.ref a∧H2 a=some (.ins C dx fs)∧Cls K C∧fw K C f∧fs.length<1000∧
 D.nx σ (upd H2 a (.ins C dx (dI f y fs)))
section
variable {X:Cx}{o e value:Expr}{f:Str}{pos pos' tpos:Pos}{ta tv:TE}
theorem gL (he:PE X e ta) (hb:attributeBase e f X.env (eval e X.env)=eval e X.env):PE X (.Attribute e f pos) (ED X.K ta f):=by
 intro aa s σ H Q I h
 refine yM hb (thn (he aa s σ H _ I h) fun u s1 hh9=>?_)
 obtain⟨x,H1,I1,rx,a,C,dx,fs,v,ex,ea,c,n,l,q⟩:=hh9
 subst ex
 obtain rfl:u=Value.ref a:=rx
 exact sW I1 ea c n l fun u' s2 I2 ru=>⟨v,H1,I2,ru,q⟩
theorem uM (ha:PE X o ta) (hv:PE X value tv) (hs:swapsWith value (some (.Attribute o f pos')) pos.line X.env=pure false):PS X (.Assign [.Attribute o f pos'] value pos) (EE X.K ta tv f):=by
 intro aa s σ H D I h
 refine plainObj_wpAny_Assign_Attribute (thn (hv aa s σ H _ I h) fun u s1 hh=>ex5 hh fun y H1 I1 ry q=>thn (ha aa s1 σ H1 _ I1 q) fun ov s2 hh9=>?_) hs
 obtain⟨x,H2,I2,rx,a,C,dx,fs,ex,ea,c,n,l,q2⟩:=hh9
 subst ex
 obtain rfl:ov=Value.ref a:=rx
 exact sY I2 ea c n l ry fun s3 I3=>⟨σ,_,I3,q2⟩
end
section
variable {X:Cx}{aa:List (Addr×Obj)}{σ:St}{H:Hp}{s:Shared}{A:Around}{E:Value->Shared->Prop}{Q:Value->Shared->Prop}{c:Value}{b:Bool}
inductive TyOf (K:W.Frag) (H:Hp):V->Value->Prop where
 | non:TyOf K H .non (.type "NoneType")
 | bl (x:Bool):TyOf K H (.bl x) (.type "bool")
 | int (i:Int):TyOf K H (.int i) (.type "int")
 | str (x:Str):TyOf K H (.str x) (.type "str")
 | flt (x:UInt64):TyOf K H (.flt x) (.type "float")
 | lst {a:Addr}{xs:List V}(e:H a=some (.lst xs)):TyOf K H (.ref a) (.type "list")
 | frz {a:Addr}{o:Obj}{xs:List V}(e:H a=some (.frz o (.lst xs))):TyOf K H (.ref a) (.type "list")
 | tup {a:Addr}{xs:List V}(e:H a=some (.tup xs)):TyOf K H (.ref a) (.type "tuple")
 | dK {a:Addr}{kvs:List (Key×V)}(e:H a=some (.dK kvs)):TyOf K H (.ref a) (.type "dict")
 | dT {a:Addr}{kvs:List (List Key×V)}(e:H a=some (.dT kvs)):TyOf K H (.ref a) (.type "dict")
 | ins {a C dx:Addr}{fs:List (Str×V)}(e:H a=some (.ins C dx fs)) (cl:Cls K C) (ha:W.findIn K (.ref C) "__class__"=some (some (.builtin "object.__class__")))
   (hn:W.specialIn K (.builtin "object.__class__") "__get__"=some (some (.builtin "getset_descriptor.__get__"))) (htk:W.takesIn K (.builtin "object.__class__")=some true)
   (hm:W.mroIn K C (.type "object")=some true):TyOf K H (.ref a) (.ref C)
theorem uN {x:V}{u t:Value}(I:Inv X aa σ H s) (rx:az x u) (ty:TyOf X.K H x t) (e:W.kitOne X.K t c=some b) (h:∀tk,Q (.bool b) { s with toks:=tk }) :
  wpAny (model X.prog X.w) A (call (.builtin "isinstance") [u,c]) Q E s:=by
 cases ty with
 | non=>cases (show u=Value.none from rx);exact W.kia_one W.kitx_none I.kIn True.intro e (fun z=>nomatch z) h
 | bl y=>cases (show u=Value.bool y from rx);exact W.kia_one W.kitx_bool I.kIn True.intro e (fun z=>nomatch z) h
 | int i=>obtain⟨t,q⟩:=(show ∃t,u=Value.int i t from rx);cases q;exact W.kia_one W.kitx_int I.kIn True.intro e (fun z=>nomatch z) h
 | str y=>obtain⟨t,q⟩:=(show ∃t,u=Value.str y t from rx);cases q;exact W.kia_one W.kitx_str I.kIn True.intro e (fun z=>nomatch z) h
 | flt y=>obtain⟨t,q⟩:=(show ∃t,u=Value.float y t from rx);cases q;exact W.kia_one W.kitx_float I.kIn True.intro e (fun z=>nomatch z) h
 | @lst a xs ea=>
  cases (show u=Value.ref a from rx)
  obtain⟨_,_,n,_,h1⟩:=(show aS X.prog X.w H s.heap a (.lst xs) from I.hok a _ ea)
  exact W.kia_one W.kitx_list I.kIn ⟨_,h1,rfl⟩ e (fun z=>nomatch z) h
 | @frz a ob xs ea=>
  cases (show u=Value.ref a from rx)
  obtain⟨_,_,_,n,_,h1⟩:=(show aS X.prog X.w H s.heap a (.frz ob (.lst xs)) from I.hok a _ ea)
  exact W.kia_one W.kitx_list I.kIn ⟨_,h1,rfl⟩ e (fun z=>nomatch z) h
 | @tup a xs ea=>
  cases (show u=Value.ref a from rx)
  obtain⟨_,_,_,p⟩:=(show aS X.prog X.w H s.heap a (.tup xs) from I.hok a _ ea)
  obtain⟨o,h1,h2,_⟩:=p
  exact W.kia_one W.kitx_tuple I.kIn ⟨o,h1,h2⟩ e (fun z=>nomatch z) h
 | @dK a kvs ea=>
  cases (show u=Value.ref a from rx)
  obtain⟨_,_,vs,_,p⟩:=(show aS X.prog X.w H s.heap a (.dK kvs) from I.hok a _ ea)
  obtain⟨o,es,ep,h1,h2,_⟩:=p
  exact W.kia_one W.kitx_dict I.kIn ⟨o,h1,h2.1⟩ e (fun z=>nomatch z) h
 | @dT a kvs ea=>
  cases (show u=Value.ref a from rx)
  obtain⟨_,_,xs,_,o,es,ep,h1,h2,_⟩:=(show aS X.prog X.w H s.heap a (.dT kvs) from I.hok a _ ea)
  exact W.kia_one W.kitx_dict I.kIn ⟨o,h1,h2.1⟩ e (fun z=>nomatch z) h
 | @ins a C dx fs ea cl ha hn htk hm=>
  cases (show u=Value.ref a from rx)
  obtain⟨mA,O,_⟩:=jm I.hok ea
  obtain⟨od,J,_⟩:=O.look
  exact W.kia_one (W.kitx_own (cl.get _) cl.hd ha hn htk hm) I.kIn J e (fun z=>nomatch z) h
end
end L2
namespace L2
open PySem PySem.Spec PyProof.Rows
structure Room (k:Nat) (A:Around):Prop where
 hd:A.handled=none
 dp:A.depth+3*k+5<recursionLimit
 un:A.units+16*k+200<cLine
 gd:A.guards=some []
theorem Room.mono {j k:Nat}{A:Around}(r:Room k A) (h:j≤k):Room j A:=⟨r.hd,by have:=r.dp;lia,by have:=r.un;lia,r.gd⟩
theorem Room.deeper {k:Nat}{A:Around}(r:Room (k+1) A) (env:Env):Room k (A.deeper env):=
 ⟨r.hd,by have:=r.dp;show A.depth+1+3*k+5<_;lia,by have:=r.un;show A.units+3+16*k+200<_;lia,r.gd⟩
theorem sZ {A:Around}{C:Addr}{us:List Value}{kw:List (Str×Value)}:(A.under (.builtin "type.__call__" ⟨.ref C::us,kw⟩)).depth=A.depth+1:=by
 first|rfl|simp[Around.under,Code.weight,Code.isCreation,Code.isGuard,Code.isCaller,Code.frames,Code.isFrame,guardIds]
theorem ti {A:Around}{C:Addr}{us:List Value}{kw:List (Str×Value)}:(A.under (.builtin "type.__call__" ⟨.ref C::us,kw⟩)).units=A.units+1:=by
 first|rfl|simp[Around.under,Code.cUnits,Code.frames,Code.isFrame]
theorem Room.make {k:Nat}{A:Around}(r:Room (k+1) A) (C:Addr) (us:List Value) (kw:List (Str×Value)):Room k (A.under (.builtin "type.__call__" ⟨.ref C::us,kw⟩)):=
 ⟨r.hd,by have:=r.dp;rw[sZ];lia,by have:=r.un;rw[ti];lia,by
  first|exact r.gd|(have g:=r.gd;simp[Around.under,Code.guards,Code.isGuard,guardIds,pushGuards,g])⟩
theorem Room.depth {k:Nat}{A:Around}(r:Room k A):A.depth<recursionLimit:=by have:=r.dp;lia
theorem Room.units {k:Nat}{A:Around}(r:Room k A):A.units+64<cLine:=by have:=r.un;lia
theorem Room.units0 {k:Nat}{A:Around}(r:Room k A):A.units<cLine:=by have:=r.un;lia
def wD:TA:=fun _ H Q=>Q [] H
def ya (ta:TE) (tr:TA):TA:=fun σ H Q=>ta σ H fun x H1=>tr σ H1 fun xs H2=>Q (x::xs) H2
section
variable {X:Cx}{e:Expr}{es:List Expr}{te:TE}{t:TA}{pos:Pos}
theorem ae:PA X [] wD:=fun _ _ _ _ H Q I h=>Calls.spliced_nil ⟨[],H,I,.nil,h⟩
theorem ac (ha:PE X e te) (hr:PA X es t) (hs:starEach (e::es) X.env=(false,eval e X.env)::starEach es X.env:=by rfl):PA X (e::es) (ya te t):=by
 intro pos aa s σ H Q I h
 rw[hs]
 show wpAny _ _ (spliced ((false,eval e X.env)::backTo pos (starEach es X.env))) _ _ s
 refine Calls.spliced_cons (thn (ha aa s σ H _ I h) fun u s1 hh=>ex5 hh fun x H1 I1 r1 q1=>?_)
 exact thn (hr pos aa s1 σ H1 _ I1 q1) fun us s2 hh=>ex5 hh fun xs H2 I2 r2 q2=>⟨x::xs,H2,I2,.cons r1 r2,q2⟩
def EF (t:TA):TE:=fun σ H Q=>t σ H fun xs H1=>xs.length≤sizeLine∧∀p,H1 p=none->Q (.ref p) (upd H1 p (.tup xs))
def EG (t:TA):TE:=fun σ H Q=>t σ H fun xs H1=>xs.length≤sizeLine∧∀p,H1 p=none->Q (.ref p) (upd H1 p (.lst xs))
theorem eK {x1}(h:PA X es t):PE X (.Tuple es x1 pos) (EF t):=by
 intro aa s σ H Q I hq
 refine wpAny_Tuple_spliced (thn (h pos aa s σ H _ I hq) fun us s1 ⟨xs,H1,I1,r,z,q⟩=>⟨by rw[←r.length];exact z,?_⟩)
 have hf:H1 s1.heap.objs.size=none:=I1.hok.fresh (Nat.le_refl _)
 refine⟨.ref s1.heap.objs.size,upd H1 s1.heap.objs.size (.tup xs),I1.laid (t':=s1.toks) (fun b u e=>Heap.get?_push_of_some _ e) (Nat.le_refl _) ?_,rfl,q _ hf⟩
 exact⟨z,us,r,⟨_,Heap.get?_push_size _ rfl,rfl,_,rfl,rfl⟩⟩
theorem bH (h:PA X es t):PE X (.List es pos) (EG t):=by
 intro aa s σ H Q I hq
 refine wpAny_List_spliced (thn (h pos aa s σ H _ I hq) fun us s1 ⟨xs,H1,I1,r,z,q⟩=>⟨by rw[←r.length];exact z,?_⟩)
 have hf:H1 s1.heap.objs.size=none:=I1.hok.fresh (Nat.le_refl _)
 refine⟨.ref s1.heap.objs.size,upd H1 s1.heap.objs.size (.lst xs),I1.laid (t':=s1.toks) (fun b u e=>Heap.get?_push_of_some _ e) (Nat.le_refl _) ?_,rfl,q _ hf⟩
 exact⟨z,us,0,r,Heap.get?_push_size _ rfl⟩
end
abbrev Sp:=List V->Hp->VK->XK->Prop
abbrev CXT:=List Env->Hp->Shared->XK->Value->Shared->Prop
structure Env0 (P:Program) (w:World) (K:W.Frag) (mg:Str->Option Value) (base:Heap) (A:Around) (outer:List Env) (s:Shared) (H:Hp):Prop where
 frames:A.frames=some outer
 mod:Mod K mg base
 bs:∀b o,base.get? b=some o->s.heap.get? b=some o∧H b=none
 bsz:base.objs.size≤s.heap.objs.size
 funs:s.heap.FunFrames base outer
 frf:∀b∈frs outer,H b=none
 hok:HOk P w H s.heap
 bare:AllBare s.gens
def CE (outer:List Env) (P:Program) (w:World) (H:Hp) (s:Shared) (Q:VK) (u:Value) (s':Shared):Prop:=
 ∃v H',s'.os=s.os∧AllBare s'.gens∧Un (frs outer) [] H H' s.heap s'.heap∧HOk P w H' s'.heap∧az v u∧Q v H'
def CR (CX:CXT) (outer:List Env) (P:Program) (w:World) (H:Hp) (s:Shared) (Q:VK) (E:XK) (r:Result) (s':Shared):Prop:=
 match r with
 | .ok (.ret u)=>CE outer P w H s Q u s'
 | .ok _=>False
 | .error e=>CX outer H s E e s'
structure FnOk (P:Program) (w:World) (K:W.Frag) (mg:Str->Option Value) (base:Heap) (CX:CXT) (k:Nat) (f:Addr) (fd:FuncData) (ps:List Str) (sp:Sp):Prop where
 len:∀vs H Q E,sp vs H Q E->vs.length=ps.length
 run:∀(A:Around) (outer:List Env) (s:Shared) (H:Hp) (args:Args) (us:List Value) (vs:List V) (Q:VK) (E:XK),Room k A->Env0 P w K mg base A outer s H->BindsTo s fd args (ps.zip us)->av vs us->sp vs H Q E->
  codeAny (model P w) A (.call (.ref f) args) (CR CX outer P w H s Q E) s
theorem Env0.make {P:Program}{w:World}{K:W.Frag}{mg:Str->Option Value}{base:Heap}{A:Around}{outer:List Env}{s:Shared}{H:Hp}(e:Env0 P w K mg base A outer s H) (C:Addr) (us:List Value) (kw:List (Str×Value)) :
  Env0 P w K mg base (A.under (.builtin "type.__call__" ⟨.ref C::us,kw⟩)) outer s H:=⟨by first|exact e.frames|(simpa [Around.under,Code.envs,Code.isFrame,pushEnvs] using e.frames),e.mod,e.bs,e.bsz,e.funs,e.frf,e.hok,e.bare⟩
section
variable {X:Cx}{aa:List (Addr×Obj)}{σ:St}{H:Hp}{s s':Shared}
theorem Inv.env0 (I:Inv X aa σ H s):Env0 X.prog X.w X.K X.mg X.base X.A X.stack s H:=
 ⟨I.ok.frames,I.ok.mod,I.bs,Nat.le_trans I.ok.bsz I.sz,I.stack,I.stkFree,I.hok,I.bare⟩
theorem Inv.after {Q:VK}{u:Value}(I:Inv X aa σ H s) (h:CE X.stack X.prog X.w H s Q u s'):EP X aa σ Q u s':=by
 obtain⟨v,H',os,bare,un,hok,r,q⟩:=h
 obtain⟨hh,g,d,t,os'⟩:=s'
 obtain rfl:os'=s.os:=os
 exact⟨v,H',I.call (h':=hh) (g':=g) (d':=d) (t':=t) (ch:=[]) un hok bare (fun b z=>absurd z (by simp)),r,q⟩
end
def Du (C:Addr) (m:Str) (sp:Sp) (dvs:List V) (E:XK) (ta:TE) (t:TA):TE:=fun σ H Q=>ta σ H fun x H1=>∃a dx fs,x=.ref a∧H1 a=some (.ins C dx fs)∧fs.lookup m=none∧
 t σ H1 fun vs H2=>sp (x::(vs++dvs)) H2 Q E
def Dv (C:Addr) (sp:Sp) (dvs:List V) (E:XK) (t:TA):TE:=fun σ H Q=>t σ H fun vs H1=>∀x dx,H1 x=none->H1 dx=none->dx≠x->
 sp (.ref x::(vs++dvs)) (upd (upd H1 dx (.own x)) x (.ins C dx [])) (fun v H2=>v=.non∧Q (.ref x) H2) E
def cC (K:W.Frag) (fd:FuncData) (ps:List Str) (ds:List Value):Prop:=
 ∀(s:Shared) (us:List Value),K.In s.heap->(us++ds).length=ps.length->BindsTo s fd ⟨us,[]⟩ (ps.zip (us++ds))
theorem cC.all {K:W.Frag}{fd:FuncData}{ps:List Str}(h:∀us:List Value,us.length=ps.length->bindArgs fd ⟨us,[]⟩=pure (ps.zip us)):cC K fd ps []:=fun s us _ hl=>by
 rw[List.append_nil] at hl ⊢
 exact .of_eq (h us hl)
def iT (CX:CXT) (X:Cx) (E:XK):Prop:=∀(aa:List (Addr×Obj)) (σ:St) (H:Hp) (s:Shared) (e:Value) (s':Shared),Inv X aa σ H s->CX X.stack H s E e s'->X.xe e s'
section
variable {X:Cx}{CX:CXT}{k:Nat}{f C:Addr}{fd:FuncData}{ps:List Str}{sp:Sp}{dvs:List V}{ds:List Value}{E:XK}{x m:Str}{p pos apos:Pos}{e o:Expr}{es:List Expr}{ta:TE}{t:TA}
theorem As {aa:List (Addr×Obj)}{σ:St}{H:Hp}{s:Shared}{Q:VK}{us:List Value}{vs:List V}(F:FnOk X.prog X.w X.K X.mg X.base CX k f fd ps sp) (hr:Room k X.A) (hb:cC X.K fd ps ds) (hd:av dvs ds) (hx:iT CX X E)
  (I:Inv X aa σ H s) (r:av vs us) (h:sp (vs++dvs) H Q E):wpAny (model X.prog X.w) X.A (call (.ref f) us) (EP X aa σ Q) X.xe s:=by
 have r2:av (vs++dvs) (us++ds):=r.append hd
 have hl:(us++ds).length=ps.length:=by rw[←r2.length];exact F.len _ _ _ _ h
 refine wpAny_call (codeAny_mono (F.run X.A X.stack s H ⟨us,[]⟩ (us++ds) (vs++dvs) Q E hr I.env0 (hb s us I.kIn hl) r2 h) fun r s' hq=>?_)
 cases r with
 | error e=>exact hx aa σ H s e s' I hq
 | ok fl=>
  cases fl with
  | ret u=>exact I.after hq
  | next=>exact False.elim hq
  | brk=>exact False.elim hq
  | cont=>exact False.elim hq
theorem yN {pl:Sem Bool}(he:PE X o ta) (c:Cls X.K C) (hm:Meth X.K C m f) (F:FnOk X.prog X.w X.K X.mg X.base CX k f fd ps sp) (hr:Room k X.A) (hb:cC X.K fd ps ds) (hd:av dvs ds) (hx:iT CX X E) (ha:PA X (e::es) t)
  (hst:starEach (e::es) X.env=(false,eval e X.env)::starEach es X.env:=by rfl) (hpl:(backTo pos (starEach es X.env)).any (·.1)=false:=by rfl)
  (ht:eval (.Call (.Attribute o m apos) (e::es) [] pos) X.env=(do
   let ov ←eval o X.env
   standAt apos.atName
   let (f,first) ←holding [ov] (getMethod ov m pl)
   callWith pos f first (backTo pos (starEach (e::es) X.env)) (backToKw pos (keywordEach [] X.env))):=by rfl) :
  PE X (.Call (.Attribute o m apos) (e::es) [] pos) (Du C m sp dvs E ta t):=by
 intro aa s σ H Q I h
 refine W.methodCall_KW (pl:=pl) (thn (he aa s σ H _ I h) fun u s1 hh9=>?_) ht
 obtain⟨x,H1,I1,rx,a,dx,fs,ex,ea,l,q⟩:=hh9
 subst ex
 obtain rfl:u=Value.ref a:=rx
 refine sX I1 ea c hm l ?_
 refine W.callWith_K (first:=[.ref a]) (h₀:=X.base) I.ok.mod.kin hm.kp (thn (ha pos aa s1 σ H1 _ I1 q) fun us s2 hh=>ex5 hh fun vs H2 I2 r q2=>⟨I2.kIn,?_⟩) hst hpl
 exact As (us:=.ref a::us) (vs:=.ref a::vs) F hr hb hd hx I2 (.cons rfl r) q2
structure Mk (K:W.Frag) (C f:Addr):Prop where
 makes:W.makesIn K C=true
 init:W.findIn K (.ref C) "__init__"=some (some (.ref f))
 fn:W.isFn K (.ref f)=true
 kp:W.keepIn K (.ref C)=true
theorem wE {aa:List (Addr×Obj)}{σ:St}{H:Hp}{s:Shared}{Q:VK}{us:List Value}{vs:List V}(M:Mk X.K C f) (F:FnOk X.prog X.w X.K X.mg X.base CX k f fd ps sp) (hr:Room (k+1) X.A) (hb:cC X.K fd ps ds) (hd:av dvs ds)
  (hx:iT CX X E) (I:Inv X aa σ H s) (r:av vs us)
  (h:∀x dx,H x=none->H dx=none->dx≠x->sp (.ref x::(vs++dvs)) (upd (upd H dx (.own x)) x (.ins C dx [])) (fun v H2=>v=.non∧Q (.ref x) H2) E) :
  wpAny (model X.prog X.w) X.A (call (.ref C) us) (EP X aa σ Q) X.xe s:=by
 have hq:=h (s.heap.objs.size+1) s.heap.objs.size (I.hok.fresh (Nat.le_succ _)) (I.hok.fresh (Nat.le_refl _)) (Nat.ne_of_lt (Nat.lt_succ_self _))
 have I2:=Inv.made (C:=C) I
 have r2:av (V.ref (s.heap.objs.size+1)::(vs++dvs)) (Value.ref (s.heap.objs.size+1)::(us++ds)):=.cons rfl (r.append hd)
 have hl:(Value.ref (s.heap.objs.size+1)::us++ds).length=ps.length:=by
  have e:=r2.length
  rw[F.len _ _ _ _ hq] at e
  exact e.symm
 refine wpAny_call (wC (f:=f) I.kIn M.makes M.init (beq_iff_eq.mp M.fn) (codeAny_mono (F.run _ X.stack _ _ ⟨Value.ref (s.heap.objs.size+1)::us,[]⟩ (Value.ref (s.heap.objs.size+1)::(us++ds)) _ _ E (hr.make C us [])
  (I2.env0.make C us []) (hb _ (Value.ref (s.heap.objs.size+1)::us) I2.kIn hl) r2 hq) fun r s' hq'=>?_))
 cases r with
 | error e=>exact hx aa σ _ _ e s' I2 hq'
 | ok fl=>
  cases fl with
  | ret u=>
   obtain⟨v,H',I3,rv,ev,q3⟩:=I2.after hq'
   subst ev
   exact⟨rv,⟨V.ref (s.heap.objs.size+1),H',I3,rfl,q3⟩⟩
  | next=>exact False.elim hq'
  | brk=>exact False.elim hq'
  | cont=>exact False.elim hq'
theorem wF (M:Mk X.K C f) (F:FnOk X.prog X.w X.K X.mg X.base CX k f fd ps sp) (hr:Room (k+1) X.A) (hg:Gl X x) (hm:X.mg x=some (.ref C)) (hb:cC X.K fd ps ds) (hd:av dvs ds) (hx:iT CX X E)
  (hdb:(x==("__debug__":Str))=false:=by decide):PE X (.Call (.Name x p) [] [] pos) (Dv C sp dvs E wD):=by
 intro aa s σ H Q I h
 refine wpAny_Call_Name_kw (eU I hg hm ?_ hdb)
 exact W.callWith_K0 I.kIn M.kp (wE (us:=[]) M F hr hb hd hx I .nil h)
end
section
variable {X:Cx}{CX:CXT}{k:Nat}{f C:Addr}{fd:FuncData}{ps ks:List Str}{sp:Sp}{E:XK}{x m:Str}{p pos apos kpos:Pos}{e o:Expr}{es:List Expr}{kws:List Keyword}{te ta:TE}{t tk:TA}{nm:Option Str}
variable {g:List Value->List Value->List Value}{gV:List V->List V->List V}
end
structure FnScope (N P:List Str) (sc:Scope):Prop where
 kind:sc.kind=.function:=by rfl
 co:sc.isCoroutine=false:=by rfl
 gen:sc.isGenerator=false:=by rfl
 nd:N.Nodup:=by decide +kernel
 pre:N.take P.length=P:=by rfl
 par:∀x∈P,sc.names.lookup x=some .local ∨sc.names.lookup x=some .cell:=by decide +kernel
 nofree:∀y∈sc.names,y.2≠.free:=by decide +kernel
theorem mz {kindOf:Str->Option NameKind}{x:Str}:∀{binds:List (Str×Value)}{m:Str->Option Value},(∀v,(x,v)∉binds)->bindL kindOf binds m x=m x
 | [],_,_=>rfl
 | (n,v)::r,m,h=>by
  unfold bindL
  rw[mz fun w hw=>h w (List.mem_cons_of_mem _ hw)]
  split
  ·have:x≠n:=by rintro rfl;exact h v List.mem_cons_self
   simp[this]
  ·rfl
theorem mB {kindOf:Str->Option NameKind}{x:Str}:∀{binds:List (Str×Value)}{m:Str->Option Value},(∀v,(x,v)∉binds)->bindC kindOf binds m x=m x
 | [],_,_=>rfl
 | (n,v)::r,m,h=>by
  unfold bindC
  rw[mB fun w hw=>h w (List.mem_cons_of_mem _ hw)]
  split
  ·rfl
  ·have:x≠n:=by rintro rfl;exact h v List.mem_cons_self
   simp[this]
theorem mD {kindOf:Str->Option NameKind}{x:Str}{v:Value}:∀{P:List Str}{vs:List Value}{i:Nat}{m:Str->Option Value},P.Nodup->P[i]?=some x->vs[i]?=some v->kindOf x=some .local ->
  bindL kindOf (P.zip vs) m x=some v
 | [],_,_,_,_,h,_,_=>by simp at h
 | _::_,[],_,_,_,_,h,_=>by simp at h
 | p::P,w::vs,0,m,nd,h1,h2,hk=>by
  simp at h1 h2;subst h1;subst h2
  show bindL kindOf ((p,w)::P.zip vs) m p=_
  unfold bindL
  rw[mz fun v hv=>(List.nodup_cons.mp nd).1 (List.of_mem_zip hv).1,if_pos hk]
  simp
 | p::P,w::vs,i+1,m,nd,h1,h2,hk=>by
  show bindL kindOf ((p,w)::P.zip vs) m x=_
  unfold bindL
  exact mD (i:=i) (List.nodup_cons.mp nd).2 (by simpa using h1) (by simpa using h2) hk
theorem mE {kindOf:Str->Option NameKind}{x:Str}{v:Value}:∀{P:List Str}{vs:List Value}{i:Nat}{m:Str->Option Value},P.Nodup->P[i]?=some x->vs[i]?=some v->kindOf x≠some .local ->
  bindC kindOf (P.zip vs) m x=some v
 | [],_,_,_,_,h,_,_=>by simp at h
 | _::_,[],_,_,_,_,h,_=>by simp at h
 | p::P,w::vs,0,m,nd,h1,h2,hk=>by
  simp at h1 h2;subst h1;subst h2
  show bindC kindOf ((p,w)::P.zip vs) m p=_
  unfold bindC
  rw[mB fun v hv=>(List.nodup_cons.mp nd).1 (List.of_mem_zip hv).1,if_neg hk]
  simp
 | p::P,w::vs,i+1,m,nd,h1,h2,hk=>by
  show bindC kindOf ((p,w)::P.zip vs) m x=_
  unfold bindC
  exact mE (i:=i) (List.nodup_cons.mp nd).2 (by simpa using h1) (by simpa using h2) hk
def fH (N:List Str) (vs:List V):St:=vs.map some++List.replicate (N.length-vs.length) none
def bw (CX:CXT) (P:Program) (w:World) (K:W.Frag) (mg:Str->Option Value) (base:Heap) (N:List Str) (qual:Str) (scope:Scope) (f:Addr) (cd:Value) (A:Around) (outer:List Env) (s:Shared) (H:Hp) (E:XK):Cx where
 prog:=P
 w:=w
 K:=K
 mg:=mg
 base:=base
 A:=A.deeper (envOfC qual scope s.heap.objs.size f cd)
 N:=N
 s₀:=s
 H₀:=H
 env:=envOfC qual scope s.heap.objs.size f cd
 outer:=outer
 stack:=envOfC qual scope s.heap.objs.size f cd::outer
 ex:=[]
 calm:=true
 fn:=fun _=>true
 pn:=[]
 xe:=fun e s'=>wpAny (model P w) (A.deeper (envOfC qual scope s.heap.objs.size f cd)) (leaving (envOfC qual scope s.heap.objs.size f cd) e) (fun _ s''=>CX outer H s E e s'') (fun e' s''=>CX outer H s E e' s'') s'
theorem oB {sc:Scope}{n:Nat}{x:Str}(h:sc.names.lookup x=some .cell):∃c,(cellsFrom n sc.names []).lookup x=some c:=by
 have q:=W.cellsFrom_some sc.names n [] (.inl h)
 exact Option.isSome_iff_exists.mp q
theorem uO {CX:CXT}{P:Program}{w:World}{K:W.Frag}{mg:Str->Option Value}{base:Heap}{N ps:List Str}{qual:Str}{scope:Scope}{f:Addr}{cd:Value}{A:Around}{outer:List Env}{s s1:Shared}{H:Hp}{E:XK}{us:List Value}{vs:List V}
  (S:FnScope N ps scope) (hd:A.handled=none) (e0:Env0 P w K mg base A outer s H) (hl:vs.length=ps.length) (r:av vs us)
  (x:InCallC s s.heap.objs.size (bindL (envOfC qual scope s.heap.objs.size f cd).kindOf (ps.zip us) fun _=>none) (cellsFrom (s.heap.objs.size+1) scope.names []) (bindC (envOfC qual scope s.heap.objs.size f cd).kindOf (ps.zip us) fun _=>none) s1) :
  Inv (bw CX P w K mg base N qual scope f cd A outer s H E) [] (fH N vs) H s1:=by
 have hpl:ps.length≤N.length:=by have:=congrArg List.length S.pre;rw[List.length_take] at this;lia
 obtain⟨h1,tk,rfl,hk⟩:=x.done
 have noA:∀b:Addr,b∉(bw CX P w K mg base N qual scope f cd A outer s H E).ex:=fun b z=>absurd (show b∈([]:List Addr) from z) (by simp)
 refine⟨⟨e0.mod,S.kind,rfl,rfl,Nat.le_refl _,fun y z c h1 h2=>?_,fun y hy=>?_,fun y c _ h=>?_,fun _=>hd,Around.frames_deeper e0.frames,.inr ⟨rfl,rfl⟩,fun b z=>absurd z (noA b),e0.bs,e0.bsz,fun b _ _=>noA b,fun b z=>absurd z (noA b),e0.funs,e0.frf⟩,
  rfl,e0.bare,Un.kept hk,⟨_,x.toInCall.ns,fun i y v h1 h2 h3=>?_⟩,fun y c h=>⟨_,x.cell y c h⟩,e0.hok.fresh (Nat.le_refl _),fun y c h=>?_,fun p hp=>absurd (show p∈([]:List (Addr×Obj)) from hp) (by simp),e0.hok.kept hk,?_⟩
 ·exact name_of_addr x.apart (PySem.mem_of_lookup h1) (PySem.mem_of_lookup h2)
 ·have hy:scope.names.lookup y=some .cell∨scope.names.lookup y=some .free:=hy
  rcases hy with hy|hy
  ·exact oB hy
  ·exact absurd rfl (S.nofree _ (PySem.mem_of_lookup hy))
 ·exact Nat.le_of_lt (x.above y c (PySem.mem_of_lookup h))
 ·have hi:i<vs.length:=by
   unfold fH at h2
   by_cases hi:i<vs.length
   ·exact hi
   ·rw[List.getElem?_append_right (by simpa using hi)] at h2
    rw[List.getElem?_replicate] at h2
    split at h2 <;> cases h2
  have ha:vs[i]?=some v:=by
   unfold fH at h2
   rw[List.getElem?_append_left (by simpa using hi),List.getElem?_map] at h2
   cases e:vs[i]? with
   | none=>rw[e] at h2;cases h2
   | some a=>rw[e] at h2;cases h2;rfl
  obtain⟨u,hu,rv⟩:=r.get ha
  have hp:ps[i]?=some y:=by
   rw[←S.pre,List.getElem?_take_of_lt (by lia)];exact h1
  have ndP:ps.Nodup:=by rw[←S.pre];exact S.nd.sublist (List.take_sublist _ _)
  refine⟨u,rv,?_⟩
  rcases S.par y (List.mem_of_getElem? hp) with k|k
  ·exact .inl ⟨k,mD ndP hp hu k⟩
  ·obtain⟨c,e⟩:=oB (n:=s.heap.objs.size+1) k
   refine .inr ⟨.inl k,c,e,?_⟩
   have q:=x.cell y c e
   rw[mE ndP hp hu (by show scope.names.lookup y≠_;rw[k];decide)] at q
   exact q
 ·exact e0.hok.fresh (Nat.le_of_lt (x.above y c (PySem.mem_of_lookup h)))
 ·unfold fH
  show _=N.length
  rw[List.length_append,List.length_map,List.length_replicate]
  lia
theorem yb {CX:CXT}{P:Program}{w:World}{K:W.Frag}{mg:Str->Option Value}{base:Heap}{k:Nat}{f:Addr}{name qual:Str}{params:Arguments}{body:List Stmt}{scope:Scope}{dV kV doc pm cdv ct oc:Value}{an od:Option Addr}
  {osl:Array (Option Value)}{N ps:List Str}{sp:Sp}(lk:K.lookup f=some ⟨oc,od,.func (W.fnOf name qual params body scope dV kV doc pm an cdv ct),osl⟩) (hcd:W.codeIn K cdv qual=true) (S:FnScope N ps scope)
  (len:∀vs H Q E,sp vs H Q E->vs.length=ps.length)
  (hbody:∀(A:Around) (outer:List Env) (s:Shared) (H:Hp) (vs:List V) (Q:VK) (E:XK),Room k (A.deeper (envOfC qual scope s.heap.objs.size f cdv))->sp vs H Q E->
   ∃t,PSs (bw CX P w K mg base N qual scope f cdv A outer s H E) body t∧t { nx:=fun _ H'=>Q .non H',rt:=Q } (fH N vs) H) :
  FnOk P w K mg base CX (k+1) f (W.fnOf name qual params body scope dV kV doc pm an cdv ct) ps sp:=by
 refine⟨len,fun A outer s H args us vs Q E hr e0 hb r hsp=>?_⟩
 have hl:=len _ _ _ _ hsp
 have KX:K.In s.heap:=e0.mod.kin.keeps fun b o e=>(e0.bs b o e).1
 have lim:s.heap.NoLimit:=e0.mod.nolimit.keeps fun b o e=>(e0.bs b o e).1
 have hkind:∀y∈ps.zip us,scope.names.lookup y.1=some .local ∨(scope.names.lookup y.1=some .cell∧((cellsFrom (s.heap.objs.size+1) scope.names []).lookup y.1).isSome=true):=fun⟨n,v⟩ hy=>by
  rcases S.par n (List.of_mem_zip hy).1 with q|q
  ·exact .inl q
  ·exact .inr ⟨q,W.cellsFrom_some _ _ _ (.inl q)⟩
 refine codeAny_call_function hr.depth (KX _ _ lk) rfl S.co S.gen rfl (W.codeRec_of KX hcd) (hb _ _ _ _ ?_)
 refine wpAny_newFunctionEnv_cells S.kind hkind fun env he s1 x=>?_
 subst he
 refine⟨lim.keeps x.toInCall.keep,codeAny_func ?_⟩
 obtain⟨t,ht,hq⟩:=hbody A outer s H vs Q E (hr.deeper _) hsp
 have I:Inv (bw CX P w K mg base N qual scope f cdv A outer s H E) [] (fH N vs) H s1:=uO S hr.hd e0 hl r x
 refine wpAny_mono (ht [] s1 (fH N vs) H _ I hq) (fun fl s' hs=>?_) fun e s' hs=>hs
 have fin:∀{σ':St}{H':Hp}{v:V}{u:Value},Inv (bw CX P w K mg base N qual scope f cdv A outer s H E) [] σ' H' s'->az v u->Q v H'->CE outer P w H s Q u s':=
  fun {σ' H' v u} J rv q=>⟨v,H',J.os,J.bare,J.base,J.hok,rv,q⟩
 cases fl with
 | ret u=>
  obtain⟨v,σ',H',J,rv,q⟩:=hs
  exact fin J rv q
 | next=>
  obtain⟨σ',H',J,q⟩:=hs
  exact fin (v:=V.non) (u:=Value.none) J rfl q
 | brk=>
  obtain⟨_,_,_,q⟩:=hs
  exact False.elim q
 | cont=>
  obtain⟨_,_,_,q⟩:=hs
  exact False.elim q
end L2
namespace L2
open PySem PySem.Spec PyProof.Rows
section
variable {X:Cx}{x:Str}{p pos:Pos}{e:Expr}{es:List Expr}{t:TA}{id T:String}{r:List V->Hp->VK->Prop}
def tCB (r:List V->Hp->VK->Prop) (t:TA):TE:=fun σ H Q=>t σ H fun vs H1=>r vs H1 Q
theorem aw (hc:cm X (.builtin id) r) (hg:Gl X x) (hm:X.mg x=none) (hv:bootBuiltins x=some (.builtin id)) (ha:PA X (e::es) t) (hn:x≠"__name__":=by decide) (hdb:(x==("__debug__":Str))=false:=by decide)
  (he:starEach (e::es) X.env=(false,eval e X.env)::starEach es X.env:=by rfl) (hpl:(backTo pos (starEach es X.env)).any (·.1)=false:=by rfl):PE X (.Call (.Name x p) (e::es) [] pos) (tCB r t):=by
 intro aa s σ H Q I h
 refine wpAny_Call_Name_kw (kA I hg hm hv ?_ hn hdb)
 exact PyProof.Rows.callWith_builtin1 (thn (ha pos aa s σ H _ I h) fun us s1 hh=>ex5 hh fun vs H1 I1 r1 q1=>hc aa s1 σ H1 vs us Q I1 r1 q1) he hpl
theorem aZ (hc:cm X (.type T) r) (hg:Gl X x) (hm:X.mg x=none) (hv:bootBuiltins x=some (.type T)) (ha:PA X (e::es) t) (hn:x≠"__name__":=by decide) (hdb:(x==("__debug__":Str))=false:=by decide)
  (he:starEach (e::es) X.env=(false,eval e X.env)::starEach es X.env:=by rfl) (hpl:(backTo pos (starEach es X.env)).any (·.1)=false:=by rfl):PE X (.Call (.Name x p) (e::es) [] pos) (tCB r t):=by
 intro aa s σ H Q I h
 refine wpAny_Call_Name_kw (kA I hg hm hv ?_ hn hdb)
 exact PyProof.Rows.callWith_type1 (thn (ha pos aa s σ H _ I h) fun us s1 hh=>ex5 hh fun vs H1 I1 r1 q1=>hc aa s1 σ H1 vs us Q I1 r1 q1) he hpl
end
end L2
namespace HT
open PySem PyProof.Rows
def bF:List Int->List Int->Bool
 | [],[]=>false
 | [],_::_=>true
 | _::_,[]=>false
 | x::xs,y::ys=>if x=y then bF xs ys else decide (x<y)
theorem dD (x y:Int) (xs ys:List Int):bF (x::xs) (y::ys)=if x=y then bF xs ys else decide (x<y):=rfl
theorem Af:bF [] []=false:=rfl
theorem lJ (y:Int) (ys:List Int):bF [] (y::ys)=true:=rfl
theorem lK (x:Int) (xs:List Int):bF (x::xs) []=false:=rfl
section
open PySem.SeqAt
open PySem.AutoSeq1 (wpAny_loadPart')
open PySem.MeetsSeq PySem.MeetsSeq2 PySem.MeetsSeq3
end
section
variable {prog:Program}{w:World}{A:Around}{E:Value->Shared->Prop}{s:Shared}
theorem yO {t b:Addr}{vs ws:List Value}{Q:Value->Shared->Prop}(ht:IsTup s.heap t vs.toArray) (hb:IsTup s.heap b ws.toArray) (hv:vs≠[])
  (h1:ws=[]->Q (.ref t) s) (h2:ws≠[]->Q (.ref s.heap.objs.size) { s with heap:=s.heap.push { cls:=.type "tuple",data:=.seq (vs++ws).toArray } })
  (hsz:vs.length+ws.length≤sizeLine):wpAny (model prog w) A (binaryOp .Add (.ref t) (.ref b)) Q E s:=by
 obtain⟨⟨cls,dd,data,sl⟩,ho,hc,n,hd⟩:=id ht
 obtain⟨⟨cls2,dd2,data2,sl2⟩,ho2,hc2,n2,hd2⟩:=id hb
 simp only at hc hd hc2 hd2
 subst hc hd hc2 hd2
 have e:vs.toArray++ws.toArray=(vs++ws).toArray:=by simp
 by_cases hw:ws=[]
 ·exact concat_meets ⟨_,ho,rfl⟩ ⟨_,ho2,rfl⟩ noFill_tuple_add seq_tuple_add PySem.F.slot_tuple_add PySem.F.entry_tuple_add (PySem.F.args_tuple_add_2 _ _)
   (tuple_addW1 t b vs.toArray ws.toArray n n2 dd dd2 sl sl2 (by simpa using hv) (by simp[hw])) ⟨ho,ho2,h1 hw⟩
 ·refine concat_meets ⟨_,ho,rfl⟩ ⟨_,ho2,rfl⟩ noFill_tuple_add seq_tuple_add PySem.F.slot_tuple_add PySem.F.entry_tuple_add (PySem.F.args_tuple_add_2 _ _)
   (tuple_addW2 t b vs.toArray ws.toArray n n2 dd dd2 sl sl2 (by simpa using hv) (by simpa using hw) (by rw[List.size_toArray,List.size_toArray];exact hsz)) ⟨ho,ho2,?_⟩
  rw[e]
  exact h2 hw
def sIx (n d:Nat):Option Int->Nat
 | none=>d
 | some v=>if v<0 then (v+(n:Int)).toNat else min v.toNat n
theorem jY (n d:Nat):sIx n d none=d:=rfl
theorem rJ (n d k:Nat):sIx n d (some (k:Int))=min k n:=by
 show(if (k:Int)<0 then ((k:Int)+(n:Int)).toNat else min (k:Int).toNat n)=min k n
 rw[if_neg (by lia),Int.toNat_natCast]
end
end HT
namespace L2
open PySem PySem.Spec PyProof.Rows
abbrev TO:=St->Hp->(Option Int->Hp->Prop)->Prop
def PO (X:Cx) (e:Option Expr) (t:TO):Prop:=
 ∀(aa:List (Addr×Obj)) (s:Shared) (σ:St) (H:Hp) (Q:Option Int->Hp->Prop),Inv X aa σ H s->t σ H Q->
  wpAny (model X.prog X.w) X.A (evalPart e X.env) (fun u s'=>∃o H',Inv X aa σ H' s'∧IsPart u o∧Q o H') X.xe s
def yP:TO:=fun _ H Q=>Q none H
def Dw (t:TE):TO:=fun σ H Q=>t σ H fun x H1=>∃i,x=.int i∧Q (some i) H1
theorem tj {ns:List Int}:∀{us:List Value},av (ns.map V.int) us->IntsAre us ns:=by
 induction ns with
 | nil=>intro us r;rw[List.map_nil] at r;cases r;exact .nil
 | cons n ns ih=>
  intro us r
  rw[List.map_cons] at r
  cases r with
  | cons r1 r2=>
   obtain⟨t,e⟩:=r1
   subst e
   exact .cons n t (ih r2)
section
variable {X:Cx}{e:Expr}{te:TE}{lo hi:Option Expr}{tl th:TO}{pos p2:Pos}
theorem cS:PO X none yP:=by
 intro aa s σ H Q I h
 rw[evalPart_none]
 exact wpAny_pure ⟨none,H,I,.none,h⟩
theorem cT (h:PE X e te):PO X (some e) (Dw te):=by
 intro aa s σ H Q I hw
 rw[evalPart_some]
 refine thn (h aa s σ H _ I hw) fun u s1 hh=>ex5 hh fun x H1 I1 r1 q1=>?_
 obtain⟨i,rfl,q⟩:=q1
 obtain⟨t,rfl⟩:=r1
 exact⟨some i,H1,I1,.int i t,q⟩
def SlR (X:Cx) (r:V->Option Int->Option Int->Hp->VK->Prop):Prop:=
 ∀(aa:List (Addr×Obj)) (s:Shared) (σ:St) (H:Hp) (x:V) (v vl vu:Value) (lo hi:Option Int) (sl:Addr) (Q:VK),Inv X aa σ H s->az x v->s.heap.IsSliceOf sl vl vu .none->IsPart vl lo->IsPart vu hi->r x lo hi H Q->
  ∃T id,typeLookup (.type T) "__getitem__"=pure (some (.builtin id))∧s.TypeIs v T∧wpAny (model X.prog X.w) X.A (getItem v (.ref sl)) (EP X aa σ Q) X.xe s
def tSl (r:V->Option Int->Option Int->Hp->VK->Prop) (te:TE) (tl th:TO):TE:=fun σ H Q=>te σ H fun x H1=>tl σ H1 fun l H2=>th σ H2 fun u H3=>r x l u H3 Q
theorem cG {r:V->Option Int->Option Int->Hp->VK->Prop}(hr:SlR X r) (he:PE X e te) (hl:PO X lo tl) (hu:PO X hi th):PE X (.Subscript e (.Slice lo hi none p2) pos) (tSl r te tl th):=by
 intro aa s σ H Q I h
 refine Subscript_ (thn (he aa s σ H _ I h) fun v s1 hh=>ex5 hh fun x H1 I1 r1 q1=>?_)
 refine wpAny_Slice (thn (hl aa s1 σ H1 _ I1 q1) fun vl s2 hh=>ex5 hh fun l H2 I2 pl q2=>thn (hu aa s2 σ H2 _ I2 q2) fun vu s3 hh=>ex5 hh fun u H3 I3 pu q3=>?_)
 rw[evalPart_none]
 refine wpAny_pure ?_
 have I4:Inv X aa σ H3 { s3 with heap:=s3.heap.push { cls:=.type "slice",data:=.fields #[vl,vu,.none] } }:=I3.kept (t':=s3.toks) fun b ob q=>Heap.get?_push_of_some _ q
 obtain⟨T,id,hT,ht,hg⟩:=hr aa { s3 with heap:=s3.heap.push { cls:=.type "slice",data:=.fields #[vl,vu,.none] } } σ H3 x v vl vu l u s3.heap.objs.size Q I4 r1 (Heap.IsSliceOf.new ..) pl pu q3
 show wpAny (model X.prog X.w) X.A (subscriptTail e (.Slice lo hi none p2) v (.ref s3.heap.objs.size)) (EP X aa σ Q) X.xe { s3 with heap:=s3.heap.push { cls:=.type "slice",data:=.fields #[vl,vu,.none] } }
 exact tail_any (ops:=[.ref s3.heap.objs.size,v]) ht hT hg (by with_unfolding_all rfl)
def cH (xs:List V) (lo hi:Option Int):List V:=(xs.drop (HT.sIx xs.length 0 lo)).take (HT.sIx xs.length xs.length hi-HT.sIx xs.length 0 lo)
theorem qW (xs:List V) (lo hi:Option Int):(cH xs lo hi).length≤xs.length:=by
 unfold cH
 rw[List.length_take,List.length_drop]
 lia
def Dx (K:W.Frag):R2:=fun x y H Q=>∃a b xs ys,x=.ref a∧y=.ref b∧SqT K H a xs∧SqT K H b ys∧xs≠[]∧xs.length+ys.length≤sizeLine∧
 (ys=[]->Q (.ref a) H)∧(ys≠[]->∀p,H p=none->Q (.ref p) (upd H p (.tup (xs++ys))))
theorem av.nil_iff {xs:List V}{us:List Value}(r:av xs us):us=[]↔xs=[]:=by
 cases r with
 | nil=>simp
 | cons _ _=>simp
theorem yQ:OpR X (binaryOp .Add) (Dx X.K):=by
 intro aa s σ H x y v u Q I rx ry h
 obtain⟨a,b,xs,ys,rfl,rfl,ha,hb,hx,hz,q1,q2⟩:=h
 cases rx
 cases ry
 obtain⟨its,r1,p1,_⟩:=I.tuple ha
 obtain⟨its2,r2,p2,_⟩:=I.tuple hb
 refine HT.yO p1 p2 (fun z=>hx (r1.nil_iff.mp z)) (fun z=>⟨.ref a,H,I,rfl,q1 (r2.nil_iff.mp z)⟩) (fun z=>?_) (by rw[←r1.length,←r2.length];exact hz)
 refine⟨.ref s.heap.objs.size,_,I.laid (t':=s.toks) (o:=.tup (xs++ys)) (fun b ob q=>Heap.get?_push_of_some _ q) (Nat.le_refl _) ?_,rfl,q2 (fun w=>z (r2.nil_iff.mpr w)) _ (I.hok.fresh (Nat.le_refl _))⟩
 exact⟨by rw[List.length_append];exact hz,_,r1.append r2,fM.new _ _⟩
end
end L2
namespace L2
open PySem PySem.Spec PyProof.Rows
def ixN (n:Nat) (i:Int):Option Nat:=if 0≤i then (if i<n then some i.toNat else none) else if -(n:Int)≤i then some (i+n).toNat else none
def atI {α:Type}(xs:List α) (i:Int):Option α:=(ixN xs.length i).bind fun j=>xs[j]?
theorem yR {n:Nat}{i:Int}{j:Nat}(h:ixN n i=some j):seqIndex? i n=some j∧j<n∧-(n:Int)≤i∧i<n:=by
 unfold ixN at h
 by_cases h0:0≤i
 ·rw[if_pos h0] at h
  by_cases h1:i<n
  ·rw[if_pos h1] at h
   have e:i.toNat=j:=Option.some.inj h
   exact⟨by rw[seqIndex_of h0 h1,e],by lia,by lia,h1⟩
  ·rw[if_neg h1] at h;cases h
 ·rw[if_neg h0] at h
  by_cases h1:-(n:Int)≤i
  ·rw[if_pos h1] at h
   have e:(i+n).toNat=j:=Option.some.inj h
   exact⟨by rw[seqIndex_neg (by lia) h1,e],by lia,h1,by lia⟩
  ·rw[if_neg h1] at h;cases h
theorem lL {α:Type}{xs:List α}{i:Int}{v:α}(h:atI xs i=some v):∃j,seqIndex? i xs.length=some j∧xs[j]?=some v∧j<xs.length∧-(xs.length:Int)≤i∧i<xs.length:=by
 unfold atI at h
 cases e:ixN xs.length i with
 | none=>rw[e] at h;cases h
 | some j=>
  rw[e] at h
  obtain⟨h1,h2,h3,h4⟩:=yR e
  exact⟨j,h1,h,h2,h3,h4⟩
theorem br {α:Type}{xs:List α}{j:Nat}{v:α}(h:xs[j]?=some v):atI xs (j:Int)=some v:=by
 have hj:j<xs.length:=(List.getElem?_eq_some_iff.mp h).1
 have e:ixN xs.length (j:Int)=some j:=by
  unfold ixN
  rw[if_pos (by lia),if_pos (by lia)];simp
 unfold atI;rw[e];exact h
theorem wG {α:Type}(xs:List α) (v:α):atI (xs++[v]) (-1)=some v:=by
 have hl:(xs++[v]).length=xs.length+1:=by simp
 have e:ixN (xs++[v]).length (-1)=some xs.length:=by
  unfold ixN
  rw[hl,if_neg (by decide),if_pos (by lia)]
  congr 1
  lia
 unfold atI
 rw[e]
 show(xs++[v])[xs.length]?=some v
 simp
def rK (b:Expr):Prop:=∀o i,subscripted b false o i=operate [o,i] (getItem o i)
def IxR (X:Cx) (r:R2):Prop:=
 ∀(value slice:Expr) (aa:List (Addr×Obj)) (s:Shared) (σ:St) (H:Hp) (x y:V) (v u:Value) (Q:VK),Inv X aa σ H s->az x v->az y u->r x y H Q->
  subscripted slice false v u=operate [v,u] (getItem v u)->wpAny (model X.prog X.w) X.A (subscriptTail value slice v u) (EP X aa σ Q) X.xe s
def MtR (X:Cx) (id:String) (r:V->List V->Hp->VK->Prop):Prop:=
 ∀(aa:List (Addr×Obj)) (s:Shared) (σ:St) (H:Hp) (x:V) (xs:List V) (v:Value) (us:List Value) (Q:VK),Inv X aa σ H s->az x v->av xs us->r x xs H Q->
  wpAny (model X.prog X.w) X.A (call (.builtin id) (v::us)) (EP X aa σ Q) X.xe s
section
variable {X:Cx}{a b:Expr}{ta tb:TE}{pos:Pos}
theorem bT {r:R2}(hr:IxR X r) (ha:PE X a ta) (hb:PE X b tb) (hs:rK b):PE X (.Subscript a b pos) (tOp r ta tb):=by
 intro aa s σ H Q I h
 exact Subscript_ (wx ha hb I h fun v u s2 x y H2 I2 rx ry q=>hr a b aa s2 σ H2 x y v u Q I2 rx ry q (hs _ _))
def dJ (K:W.Frag):R2:=fun x y H Q=>∃p xs i v,x=.ref p∧y=.int i∧SqL K H p xs∧atI xs i=some v∧Q v H
def Au (K:W.Frag):R2:=fun x y H Q=>∃p xs i v,x=.ref p∧y=.int i∧SqT K H p xs∧atI xs i=some v∧Q v H
def wH:R2:=fun x y H Q=>∃z i c,x=.str z∧y=.int i∧z.length≤sizeLine∧atI z.cps.toList i=some c∧Q (.str ⟨#[c]⟩) H
theorem bA:IxR X (dJ X.K):=by
 intro value slice aa s σ H x y v u Q I rx ry h hs
 obtain⟨p,xs,i,z,rfl,rfl,hq,he,q⟩:=h
 cases rx
 obtain⟨t,rfl⟩:=ry
 obtain⟨its,r,pl,hz⟩:=I.list hq
 obtain⟨j,h1,h2,h3,h4,h5⟩:=lL he
 obtain⟨w,ew,rw'⟩:=r.get h2
 have hl:=r.length
 have hn:=gK
 have fin:EP X aa σ Q w s:=⟨z,H,I,rw',q⟩
 by_cases h0:0≤i
 ·have hj:i.toNat=j:=by
   rw[seqIndex_of h0 h5] at h1
   exact Option.some.inj h1
  exact item_listR pl.isList h0 (by lia) (by rw[hj];simpa using ew) fin hs
 ·have hj:(i+(its.toArray.size:Int)).toNat=j:=by
   rw[seqIndex_neg (by lia) h4] at h1
   rw[List.size_toArray,←hl]
   exact Option.some.inj h1
  exact subscriptTail_builtinR (x:=w) pl.isList.typeIs slot_list_getitem.lookup
   (wpAny_getItem_list_neg (Q:=fun r s'=>r=w∧EP X aa σ Q r s') pl.isList (by lia) (by rw[List.size_toArray] <;> lia) (by lia) (by rw[hj];simpa using ew) ⟨rfl,fin⟩) hs
theorem Av:IxR X (Au X.K):=by
 intro value slice aa s σ H x y v u Q I rx ry h hs
 obtain⟨p,xs,i,z,rfl,rfl,hq,he,q⟩:=h
 cases rx
 obtain⟨t,rfl⟩:=ry
 obtain⟨its,r,pl,hz⟩:=I.tuple hq
 obtain⟨j,h1,h2,h3,h4,h5⟩:=lL he
 obtain⟨w,ew,rw'⟩:=r.get h2
 have hl:=r.length
 have hn:=gK
 have fin:EP X aa σ Q w s:=⟨z,H,I,rw',q⟩
 exact subscriptTail_builtinR (x:=w) pl.typeIs slot_tuple_getitem.lookup
  (getItem_tuple (j:=j) (Q:=fun r s'=>r=w∧EP X aa σ Q r s') pl (by lia) (by lia) (by rw[List.size_toArray,←hl];exact h1) (by simpa using ew) ⟨rfl,fin⟩) hs
theorem uP:IxR X wH:=by
 intro value slice aa s σ H x y v u Q I rx ry h hs
 obtain⟨z,i,c,rfl,rfl,hz,he,q⟩:=h
 obtain⟨t,rfl⟩:=rx
 obtain⟨t',rfl⟩:=ry
 obtain⟨j,h1,h2,h3,h4,h5⟩:=lL he
 have hl:z.cps.toList.length=z.length:=by simp[Str.length]
 rw[hl] at h1 h4 h5
 have hn:=gK
 exact tail_any (typeIs_str s z t) slot_str_getitem.lookup (getItem_str (c:=c) (by
  have e1:decide (i < -(2 ^ 63:Int))=false:=decide_eq_false (by lia)
  have e2:decide (i ≥ 2 ^ 63)=false:=decide_eq_false (by lia)
  rw[e1,e2,Bool.or_false]) (by rw[h1];simpa using h2) ⟨.str ⟨#[c]⟩,H,I.tok _,⟨_,rfl⟩,q⟩) hs
theorem oE (lo hi:Option Int) (n:Nat):(sliceBounds lo hi none n).1=((HT.sIx n 0 lo:Nat):Int)∧(sliceBounds lo hi none n).2.1=((HT.sIx n n hi:Nat):Int)∧(sliceBounds lo hi none n).2.2=1:=by
 refine⟨?_,?_,rfl⟩
 ·cases lo with
  | none=>simp[sliceBounds,HT.sIx]
  | some i=>
   simp only[sliceBounds,HT.sIx,Option.getD_none,show(1:Int) > 0 by decide,if_true]
   by_cases h:i<0
   ·simp only[h,if_true] <;> lia
   ·simp only[h,if_false] <;> lia
 ·cases hi with
  | none=>simp[sliceBounds,HT.sIx]
  | some i=>
   simp only[sliceBounds,HT.sIx,Option.getD_none,show(1:Int) > 0 by decide,if_true]
   by_cases h:i<0
   ·simp only[h,if_true] <;> lia
   ·simp only[h,if_false] <;> lia
theorem nP (its:List Value) (lo hi:Option Int):slicePick its.toArray lo hi none=((its.drop (HT.sIx its.length 0 lo)).take (HT.sIx its.length its.length hi-HT.sIx its.length 0 lo)).toArray:=by
 obtain⟨h1,h2,h3⟩:=oE lo hi its.toArray.size
 unfold slicePick
 rw[h1,h2,h3]
 simp only[sliceRange_one,pick_run,List.size_toArray] <;> rfl
def EH (K:W.Frag):V->Option Int->Option Int->Hp->VK->Prop:=fun x lo hi H Q=>∃a xs,x=.ref a∧SqL K H a xs∧∀p,H p=none->Q (.ref p) (upd H p (.lst (cH xs lo hi)))
theorem jn:SlR X (EH X.K):=by
 intro aa s σ H x v vl vu lo hi sl Q I rx hs pl pu h
 obtain⟨a,xs,rfl,hx,q⟩:=h
 cases rx
 obtain⟨its,r,ht,hz⟩:=I.list hx
 have hlen:=r.length
 refine⟨"list",_,slot_list_getitem.lookup,ht.isList.typeIs,?_⟩
 refine wpAny_getItem_list_slice ht.isList hs pl pu .none (by simp) ?_ (by rw[List.size_toArray] <;> lia)
 rw[nP,←hlen]
 refine⟨.ref s.heap.objs.size,_,I.laid (t':=s.toks) (o:=.lst (cH xs lo hi)) (fun b ob q=>Heap.get?_push_of_some _ q) (Nat.le_refl _) ?_,rfl,q _ (I.hok.fresh (Nat.le_refl _))⟩
 exact⟨Nat.le_trans (qW xs lo hi) hz,_,0,(r.drop (HT.sIx xs.length 0 lo)).take (HT.sIx xs.length xs.length hi-HT.sIx xs.length 0 lo),Heap.get?_push_size _ rfl⟩
def bZ:V->Bool
 | .non=>true
 | .bl _=>true
 | .int _=>true
 | .str _=>true
 | _=>false
def eqV:V->V->Bool
 | .non,.non=>true
 | .bl a,.bl b=>a==b
 | .bl a,.int b=>(if a then 1 else 0)==b
 | .int a,.bl b=>a==(if b then 1 else 0)
 | .int a,.int b=>a==b
 | .str a,.str b=>a==b
 | _,_=>false
theorem uQ {A:Around}{s:Shared}{y x:V}{u v:Value}(ry:az y u) (rx:az x v) (fy:bZ y=true) (fx:bZ x=true):SeqAt.EqAt A s u v (eqV y x):=by
 cases y with
 | non=>
  cases ry
  cases x with
  | non=>cases rx;exact SeqAt.EqAt.same _
  | bl b=>cases rx;exact SeqAt.EqAt.none_bool b
  | int b=>obtain⟨t,rfl⟩:=rx;exact SeqAt.EqAt.none_int b t
  | str b=>obtain⟨t,rfl⟩:=rx;exact SeqAt.EqAt.none_str b t
  | _=>exact absurd (show false=true from fx) Bool.false_ne_true
 | bl a=>
  cases ry
  cases x with
  | non=>cases rx;exact SeqAt.EqAt.bool_none a
  | bl b=>cases rx;exact SeqAt.EqAt.bool_bool a b
  | int b=>obtain⟨t,rfl⟩:=rx;exact SeqAt.EqAt.bool_int a b t
  | str b=>obtain⟨t,rfl⟩:=rx;exact SeqAt.EqAt.bool_str a b t
  | _=>exact absurd (show false=true from fx) Bool.false_ne_true
 | int a=>
  obtain⟨t',rfl⟩:=ry
  cases x with
  | non=>cases rx;exact SeqAt.EqAt.int_none a t'
  | bl b=>cases rx;exact SeqAt.EqAt.int_bool a t' b
  | int b=>obtain⟨t,rfl⟩:=rx;exact SeqAt.EqAt.int_int a t' b t
  | str b=>obtain⟨t,rfl⟩:=rx;exact SeqAt.EqAt.int_str a t' b t
  | _=>exact absurd (show false=true from fx) Bool.false_ne_true
 | str a=>
  obtain⟨t',rfl⟩:=ry
  cases x with
  | non=>cases rx;exact SeqAt.EqAt.str_none a t'
  | bl b=>cases rx;exact SeqAt.EqAt.str_bool a t' b
  | int b=>obtain⟨t,rfl⟩:=rx;exact SeqAt.EqAt.str_int a t' b t
  | str b=>obtain⟨t,rfl⟩:=rx;exact SeqAt.EqAt.str_str a t' b t
  | _=>exact absurd (show false=true from fx) Bool.false_ne_true
 | _=>exact absurd (show false=true from fy) Bool.false_ne_true
def eqU (x:V) (u:Value):Bool:=match u with
 | .none=>eqV .non x
 | .bool b=>eqV (.bl b) x
 | .int i _=>eqV (.int i) x
 | .str z _=>eqV (.str z) x
 | _=>false
theorem kE {x y:V}{u:Value}(r:az y u) (f:bZ y=true):eqU x u=eqV y x:=by
 cases y with
 | non=>cases r;rfl
 | bl b=>cases r;rfl
 | int i=>obtain⟨t,rfl⟩:=r;rfl
 | str z=>obtain⟨t,rfl⟩:=r;rfl
 | _=>exact absurd (show false=true from f) Bool.false_ne_true
theorem lM {x:V}:∀{xs:List V}{us:List Value},av xs us->xs.all bZ=true->us.any (eqU x)=xs.any fun y=>eqV y x
 | _,_,.nil,_=>rfl
 | y::xs,u::us,.cons r t,f=>by
  rw[List.all_cons,Bool.and_eq_true] at f
  rw[List.any_cons,List.any_cons,kE r f.1,lM t f.2]
theorem fP {A:Around}{s:Shared}{x:V}{v:Value}(rx:az x v) (fx:bZ x=true):∀{xs:List V}{us:List Value},av xs us->xs.all bZ=true->∀u∈us,SeqAt.EqAt A s u v (eqU x u)
 | _,_,.nil,_=>fun u hu=>by cases hu
 | y::xs,u::us,.cons r t,f=>fun u' hu=>by
  rw[List.all_cons,Bool.and_eq_true] at f
  rcases List.mem_cons.mp hu with rfl|hu
  ·rw[kE r f.1];exact uQ r rx f.1 fx
  ·exact fP rx fx t f.2 u' hu
def inV (x:V) (xs:List V):Bool:=xs.any fun y=>eqV y x
def rIn (K:W.Frag) (neg:Bool):R2:=fun x y H Q=>∃p xs,y=.ref p∧(SqL K H p xs∨SqT K H p xs)∧bZ x=true∧xs.all bZ=true∧Q (.bl (if neg then !inV x xs else inV x xs)) H
theorem oG:OpR X (compareOp .NotIn) (rIn X.K true):=by
 intro aa s σ H x y v u Q I rx ry h
 obtain⟨p,xs,rfl,hq,fx,fs,q⟩:=h
 cases ry
 rcases hq with hq|hq
 ·obtain⟨its,r,pl,hz⟩:=I.list hq
  refine SeqAt.notIn_listAt (eqU x) pl.isList (fun w hw=>fP rx fx r fs w (by simpa using hw)) ⟨.bl _,H,I,rfl,?_⟩
  rw[show its.toArray.any (eqU x)=its.any (eqU x) by simp,lM r fs]
  exact q
 ·obtain⟨its,r,pl,hz⟩:=I.tuple hq
  refine SeqAt.notIn_tupleAt (eqU x) pl (fun w hw=>fP rx fx r fs w (by simpa using hw)) ⟨.bl _,H,I,rfl,?_⟩
  rw[show its.toArray.any (eqU x)=its.any (eqU x) by simp,lM r fs]
  exact q
theorem aN:cm X (.builtin "len") (fun xs H Q=>∃p ys,xs=[.ref p]∧(SqL X.K H p ys∨SqT X.K H p ys)∧Q (.int ys.length) H):=by
 intro aa s σ H xs us Q I r h
 obtain⟨p,ys,rfl,hq,q⟩:=h
 obtain⟨u,rfl,rx⟩:=dB r
 cases rx
 have hn:=gK
 rcases hq with hq|hq
 ·obtain⟨its,r',pl,hz⟩:=I.list hq
  have hlen:=r'.length
  exact Calls.call_len_list pl.isList (by simp only[List.size_toArray] <;> lia) ⟨.int ys.length,H,I.tok _,⟨s.toks+1,by rw[List.size_toArray,hlen]⟩,q⟩
 ·obtain⟨its,r',pl,hz⟩:=I.tuple hq
  have hlen:=r'.length
  exact len_tuple pl (by simp only[List.size_toArray] <;> lia) ⟨.int ys.length,H,I.tok _,⟨s.toks+1,by rw[List.size_toArray,hlen]⟩,q⟩
theorem eM:cm X (.builtin "len") (fun xs H Q=>∃z,xs=[.str z]∧z.length≤sizeLine∧Q (.int z.length) H):=by
 intro aa s σ H xs us Q I r h
 obtain⟨z,rfl,hz,q⟩:=h
 obtain⟨u,rfl,t,rfl⟩:=dB r
 have hn:=gK
 exact len_str (by lia) ⟨.int z.length,H,I.tok _,⟨_,rfl⟩,q⟩
theorem dS:cm X (.type "tuple") (fun xs H Q=>∃p ys,xs=[.ref p]∧((SqL X.K H p ys∧∀l,H l=none->Q (.ref l) (upd H l (.tup ys)))∨(SqT X.K H p ys∧Q (.ref p) H))):=by
 intro aa s σ H xs us Q I r h
 obtain⟨p,ys,rfl,h⟩:=h
 obtain⟨u,rfl,rx⟩:=dB r
 cases rx
 rcases h with⟨hq,q⟩|⟨hq,q⟩
 ·obtain⟨its,r',pl,hz⟩:=I.list hq
  have hlen:=r'.length
  refine call_tuple_list pl.isList (fun h' kp=>?_) (by simp only[List.size_toArray] <;> lia)
  have I1:Inv X aa σ H { s with heap:=h' }:=I.kept (t':=s.toks) kp
  have I2:Inv X aa σ (upd H h'.objs.size (.tup ys)) { s with heap:=h'.push { cls:=.type "tuple",data:=.seq its.toArray } }:=
   I1.laid (t':=s.toks) (fun b o e=>Heap.get?_push_of_some _ e) (Nat.le_refl _) (show aS X.prog X.w _ _ _ (.tup ys) from⟨hz,its,r',fM.new _ _⟩)
  exact⟨.ref h'.objs.size,_,I2,rfl,q _ (I1.hok.fresh (Nat.le_refl _))⟩
 ·obtain⟨its,r',pl,hz⟩:=I.tuple hq
  exact call_tuple_same pl ⟨.ref p,H,I,rfl,q⟩
def tyV (K:W.Frag) (T:String) (x:V) (H:Hp):Prop:=match x with
 | .str _=>T="str"
 | .int _=>T="int"
 | .ref p=>(T="list"∧∃xs,SqL K H p xs)∨(T="tuple"∧∃o,K.lookup p=some o∧o.cls=.type "tuple"∧o.dict=none)∨
   (T="dict"∧((∃kvs,H p=some (.dK kvs))∨∃kvs,H p=some (.dT kvs)))∨(T="set"∧∃S n,H p=some (.set S n))
 | _=>False
theorem Aw {aa:List (Addr×Obj)}{σ:St}{H:Hp}{s:Shared}{T:String}{x:V}{v:Value}(I:Inv X aa σ H s) (r:az x v) (ty:tyV X.K T x H) :
  s.TypeIs v T∧∀a,v=.ref a->∃ob,s.heap.get? a=some ob∧ob.dict=none:=by
 cases x with
 | str z=>
  obtain⟨t,rfl⟩:=r
  cases (show T="str" from ty)
  exact⟨typeIs_str s z t,fun _ e=>nomatch e⟩
 | int i=>
  obtain⟨t,rfl⟩:=r
  cases (show T="int" from ty)
  exact⟨typeIs_int s i t,fun _ e=>nomatch e⟩
 | ref p=>
  cases r
  rcases ty with⟨rfl,xs,hq⟩|⟨rfl,o,hk,hc,hd⟩|⟨rfl,hk⟩|⟨rfl,S,n,hk⟩
  ·obtain⟨its,_,pl,_⟩:=I.list hq
   refine⟨pl.isList.typeIs,fun a e=>?_⟩
   cases e
   obtain⟨o,n,e,c,hd,_⟩:=pl
   exact⟨o,e,hd⟩
  ·refine⟨⟨o,I.kIn p o hk,hc⟩,fun a e=>?_⟩
   cases e
   exact⟨o,I.kIn _ o hk,hd⟩
  ·have z:∃o,s.heap.get? p=some o∧o.ExactDict:=by
    rcases hk with⟨kvs,hk⟩|⟨kvs,hk⟩
    ·obtain⟨_,_,_,_,o,_,_,e,ex,_⟩:=I.hok p _ hk
     exact⟨o,e,ex⟩
    ·obtain⟨_,_,_,_,o,_,_,e,ex,_⟩:=I.hok p _ hk
     exact⟨o,e,ex⟩
   obtain⟨o,e,ex⟩:=z
   refine⟨⟨o,e,ex.1⟩,fun a e2=>?_⟩
   cases e2
   exact⟨o,e,ex.2.1⟩
  ·obtain⟨o,_,_,_,e,ex,_⟩:=I.hok p _ hk
   refine⟨⟨o,e,ex.1⟩,fun a e2=>?_⟩
   cases e2
   exact⟨o,e,ex.2.1⟩
 | _=>exact False.elim ty
def tBM (K:W.Frag) (T:String) (r:V->List V->Hp->VK->Prop) (to:TE) (t:TA):TE:=fun σ H Q=>to σ H fun x H1=>tyV K T x H1∧t σ H1 fun xs H2=>r x xs H2 Q
variable {o e:Expr}{es:List Expr}{to:TE}{t:TA}{name:Str}{apos cpos:Pos}{T id:String}{r:V->List V->Hp->VK->Prop}
theorem bP (pa:PlainAttrs T) (slot:Slot T name id) (hty:typeOf (.builtin id)=pure (.type "method_descriptor")) (hm:MtR X id r) (ho:PE X o to) (ha:PA X (e::es) t)
  (hbase:attributeBase o name X.env (eval o X.env)=eval o X.env:=by rfl)
  (hfew:((backTo cpos (starEach (e::es) X.env)).all (fun x=>!x.1)&&(backToKw cpos (keywordEach [] X.env)).all (fun x=>x.1.isSome)
   && decide ((e::es).length+([]:List Keyword).length+(if ([]:List Keyword).isEmpty then 0 else 1)<30))=true:=by rfl)
  (hline:(apos.endLine==cpos.line)=true:=by rfl) (hs:starEach (e::es) X.env=(false,eval e X.env)::starEach es X.env:=by rfl) (hplain:(backTo cpos (starEach es X.env)).any (·.1)=false:=by rfl) :
  PE X (.Call (.Attribute o name apos) (e::es) [] cpos) (tBM X.K T r to t):=by
 intro aa s σ H Q I h
 refine wpAny_Call_method_late hbase hfew hline rfl (thn (ho aa s σ H _ I h) fun v s1 hh9=>?_)
 obtain⟨x,H1,I1,r1,ty,q1⟩:=hh9
 obtain⟨h1,h2⟩:=Aw I1 r1 ty
 refine⟨T,id,pa,slot,hty,h1,h2,?_⟩
 have hA:=ha cpos aa s1 σ H1 _ I1 q1
 rw[hs] at hA ⊢
 refine Calls.callWith_builtin (by show(false||(backTo cpos (starEach es X.env)).any (·.1))=false;rw[hplain] <;> rfl) (Calls.evalArgs_plain ?_)
 exact thn hA fun us s2 hh=>ex5 hh fun vs H2 I2 r2 q2=>hm aa s2 σ H2 x vs v us Q I2 r1 r2 q2
end
end L2
namespace L2
open PySem PySem.Spec PyProof.Rows
def MtM (X:Cx) (id:String) (r:V->List V->Hp->VK->Prop):Prop:=
 ∀(aa:List (Addr×Obj)) (s:Shared) (σ:St) (H:Hp) (x:V) (xs:List V) (v:Value) (us:List Value) (Q:VK),Inv X aa σ H s->az x v->av xs us->r x xs H Q->
  wpAny (model X.prog X.w) X.A (call (.builtin id) (v::us)) (EP X aa σ Q) X.xe s
theorem av.one:∀{x:V}{us:List Value},av [x] us->∃u,us=[u]∧az x u
 | _,_,.cons r .nil=>⟨_,rfl,r⟩
theorem av.two:∀{x y:V}{us:List Value},av [x,y] us->∃u v,us=[u,v]∧az x u∧az y v
 | _,_,_,.cons r (.cons q .nil)=>⟨_,_,rfl,r,q⟩
theorem av.rep {xs:List V}{us:List Value}(h:av xs us):∀k:Nat,av (List.replicate k xs).flatten (List.replicate k us).flatten
 | 0=>.nil
 | k+1=>by
  rw[List.replicate_succ,List.replicate_succ,List.flatten_cons,List.flatten_cons]
  exact av.append h (av.rep h k)
theorem mF (its:List Value):∀(k:Nat) (acc:List Value),
  List.foldl (fun x1 x2=>x1++x2) acc.toArray (List.replicate k its.toArray)=(acc++(List.replicate k its).flatten).toArray
 | 0,acc=>by simp
 | k+1,acc=>by
  have e:acc.toArray++its.toArray=(acc++its).toArray:=by simp
  have e2:(acc++its)++(List.replicate k its).flatten=acc++(List.replicate (k+1) its).flatten:=by
   rw[List.replicate_succ,List.flatten_cons,List.append_assoc]
  rw[←e2,←mF its k (acc++its),←e,List.replicate_succ,List.foldl_cons]
section
variable {X:Cx}{aa:List (Addr×Obj)}{σ:St}{H:Hp}{s:Shared}{l b:Addr}{xs ys zs:List V}
theorem Inv.lset {its its':List Value}{n:Nat}{f:Array Value->Array Value}{t':Nat}(I:Inv X aa σ H s) (hH:H l=some (.lst xs))
  (e:s.heap.get? l=some { cls:=.type "list",data:=.seq its.toArray n }) (hf:f its.toArray=its'.toArray) (hv:av ys its') (hz:ys.length≤sizeLine) :
  Inv X aa σ (upd H l (.lst ys)) { s with heap:=s.heap.update l (Obj.mapSeq f),toks:=t' }:=by
 have q:=PySem.IsL.update e f
 rw[hf] at q
 refine I.write (x:=l) (e:=l) (by rw[hH];exact trivial) (.inl rfl) (fun b' u hb hu=>(Heap.get?_update_other s.heap (Obj.mapSeq f) (Ne.symm hb)).trans hu) ⟨_,q⟩ ?_
 exact⟨hz,its',_,hv,q⟩
theorem Inv.lnew {its:List Value}{t':Nat}(I:Inv X aa σ H s) (hv:av ys its) (hz:ys.length≤sizeLine) :
  Inv X aa σ (upd H s.heap.objs.size (.lst ys)) { s with heap:=s.heap.push { cls:=.type "list",data:=.seq its.toArray },toks:=t' }:=
 I.laid (fun _ _ q=>Heap.get?_push_of_some _ q) (Nat.le_refl _) ⟨hz,its,0,hv,Heap.get?_push_size _ rfl⟩
theorem Inv.fresh (I:Inv X aa σ H s):H s.heap.objs.size=none:=I.hok.fresh (Nat.le_refl _)
theorem Inv.lstM (I:Inv X aa σ H s) (hH:H l=some (.lst xs)):xs.length≤sizeLine∧∃(its:List Value) (n:Nat),av xs its∧xs.length=its.length∧s.heap.get? l=some { cls:=.type "list",data:=.seq its.toArray n }:=by
 obtain⟨z,its,n,r,e⟩:=I.hok l _ hH
 exact⟨z,its,n,r,r.length,e⟩
theorem wI {n:Nat}(h:n≤sizeLine):Builtin.List.listTooLong n=false:=by
 unfold Builtin.List.listTooLong
 exact decide_eq_false (by lia)
end
section
variable {X:Cx}
def yS:V->List V->Hp->VK->Prop:=fun x vs H Q=>∃l xs y,x=.ref l∧vs=[y]∧H l=some (.lst xs)∧xs.length<sizeLine∧Q .non (upd H l (.lst (xs++[y])))
theorem de:MtM X "list.append" yS:=by
 intro aa s σ H x vs v us Q I rx rv h
 obtain⟨l,xs,y,rfl,rfl,hH,hz,q⟩:=h
 cases rx
 obtain⟨u,rfl,ru⟩:=rv.one
 obtain⟨z,its,n,r,hl,e⟩:=I.lstM hH
 refine call_meets F.slot_list_append ⟨_,e,rfl⟩ F.entry_list_append (F.args_list_append_2 _ _) (PySem.list_append l its.toArray n u (by rw[List.size_toArray];lia)) ⟨e,?_⟩
 refine⟨.non,_,I.lset (its':=its++[u]) hH e (by simp) (r.append (.cons ru .nil)) ?_,rfl,q⟩
 rw[List.length_append,List.length_singleton]
 lia
def EI:R2:=fun x y H Q=>∃l b xs zs,x=.ref l∧y=.ref b∧H l=some (.lst xs)∧H b=some (.lst zs)∧xs.length+zs.length≤sizeLine∧∀p,H p=none->Q (.ref p) (upd H p (.lst (xs++zs)))
theorem kF:OpR X (binaryOp .Add) EI:=by
 intro aa s σ H x y v u Q I rx ry h
 obtain⟨l,b,xs,zs,rfl,rfl,hH,hB,hz,q⟩:=h
 cases rx
 cases ry
 obtain⟨z,its,n,r,hl,e⟩:=I.lstM hH
 obtain⟨z2,its2,n2,r2,hl2,e2⟩:=I.lstM hB
 refine PySem.P.add_list e e2 ?_ (by rw[List.size_toArray,List.size_toArray];lia)
 have ea:its.toArray++its2.toArray=(its++its2).toArray:=by simp
 rw[ea]
 exact⟨.ref _,_,I.lnew (t':=s.toks) (r.append r2) (by rw[List.length_append];lia),rfl,q _ I.fresh⟩
def EJ:R2:=fun x y H Q=>∃l k xs,x=.ref l∧y=.int k∧H l=some (.lst xs)∧-(2 ^ 63)≤k∧k<2 ^ 63∧xs.length*k.toNat≤sizeLine∧
 ∀p,H p=none->Q (.ref p) (upd H p (.lst (List.replicate k.toNat xs).flatten))
theorem yT {α:Type}(xs:List α) (k:Nat):(List.replicate k xs).flatten.length=k*xs.length:=by
 induction k with
 | zero=>simp
 | succ k ih=>rw[List.replicate_succ,List.flatten_cons,List.length_append,ih,Nat.succ_mul,Nat.add_comm]
theorem Ax:OpR X (binaryOp .Mult) EJ:=by
 intro aa s σ H x y v u Q I rx ry h
 obtain⟨l,k,xs,rfl,rfl,hH,h1,h2,hz,q⟩:=h
 cases rx
 obtain⟨t,rfl⟩:=ry
 obtain⟨z,its,n,r,hl,e⟩:=I.lstM hH
 have hlen:its.toArray.size*k.toNat≤sizeLine:=by rw[List.size_toArray,←hl];exact hz
 have hcap:¬its.toArray.size*k.toNat > (2 ^ 63-1) / 8:=by
  have:(sizeLine:Nat)≤(2 ^ 63-1) / 8:=by decide
  lia
 have hfit:¬(!Builtin.List.listFitsIndex k)=true:=by
  rw[fitsIndex_both h1 h2]
  exact Bool.false_ne_true
 have hlong:¬Builtin.List.listTooLong (its.toArray.size*k.toNat)=true:=by
  rw[wI hlen]
  exact Bool.false_ne_true
 have hnew:List.foldl (fun x1 x2=>x1++x2) #[] (List.replicate (if its.toArray.isEmpty=true then 0 else k.toNat) its.toArray)=(List.replicate k.toNat its).flatten.toArray:=by
  have f0:∀m:Nat,List.foldl (fun x1 x2=>x1++x2) #[] (List.replicate m its.toArray)=(List.replicate m its).flatten.toArray:=fun m=>by
   have:=mF its m []
   rw[List.nil_append] at this
   exact this
  rw[f0]
  cases its with
  | nil=>simp
  | cons a r'=>rw[if_neg (by simp)]
 refine wpAny_binaryOp_repeat_ref (T:="list") (U:="int") (by decide) ⟨_,e,rfl⟩ (fun s'=>typeIs_int s' k t) noFill_list_mul F.fills_int_mul F.slot_int_rmul repeat_list F.slot_int_index.lookup
  (call_meets F.slot_int_rmul (typeIs_int s k t) F.entry_int_rmul (F.args_int_rmul_2 _ _) (int___rmul___int_list k t l its.toArray n)
   ⟨e,rfl,⟨_,e,rfl⟩,call_meets F.slot_list_mul ⟨_,e,rfl⟩ F.entry_list_mul (F.args_list_mul_2 _ _) (AutoListH.list___mul___list_int_3 l its.toArray n k t hfit hcap hlong) ⟨e,?_⟩⟩)
 rw[hnew]
 exact⟨.ref _,_,I.lnew (t':=s.toks) (r.rep k.toNat) (by rw[yT,Nat.mul_comm];exact hz),rfl,q _ I.fresh⟩
end
section
variable {prog:Program}{w:World}{A:Around}{E:Value->Shared->Prop}{s:Shared}
set_option maxRecDepth 100000 in
end
section
variable {X:Cx}
end
end L2
namespace Att
open PySem PySem.W PySem.Calls PyProof.Rows
theorem kG {P:Params}{h:Heap}:∀(ns:List Int) (vs:List Value),WellAll P h vs (ns.map WData.int)->IntsAre vs ns:=by
 intro ns
 induction ns with
 | nil=>
  intro vs w
  rw[List.map_nil] at w
  cases w
  exact .nil
 | cons n ns ih=>
  intro vs w
  rw[List.map_cons] at w
  cases w with
  | cons a b=>
   cases a
   exact .cons _ _ (ih _ b)
theorem uR {l:OpenLaw}{n:Nat}(hn:l.most=some n) {P:Params}{h:Heap}{args:List WData}{vals:List Value}
  (hpre:l.row.toRowW.claim.pre args=true) (hwl:WellAll P h vals args) :
  ∃a vs ns,vals=[Value.ref a]∧args=[WData.list (ns.map WData.int)]∧h.get? a=some { cls:=.type "list",data:=.seq vs.toArray }∧IntsAre vs ns∧ns.length≤n:=by
 have hsh:WShape.hasAll [] args [.list .int]=true:=(pre_splitW hpre).1
 have hc:l.pre.holds [] { args:=args }=true:=(pre_splitW hpre).2
 obtain⟨d,r,rfl,h1,h2⟩:=hasAllW_cons hsh
 obtain rfl:=hasAllW_nil h2
 obtain⟨xs,rfl,h3⟩:=hasW_list h1
 obtain⟨ns,rfl⟩:=items_int h3
 have hlen:ns.length≤n:=by
  unfold OpenLaw.pre at hc
  have h4:(WTm.not (.lt (.lit (.int (n:Int))) (.len (.arg 0)))).holds [] { args:=[.list (ns.map .int)] }=true:=by
   have h4:=(holds_andW hc).1
   rw[hn] at h4
   exact h4
  have h5:=condW_of h4 (w_not (w_lt w_lit (w_len_list (w_arg rfl))))
  rw[List.length_map] at h5
  refine Nat.le_of_not_lt fun q=>?_
  have q':(n:Int)<((ns.length:Nat):Int):=by lia
  first
   | (rw[decide_eq_true q'] at h5;exact absurd h5 (by decide))
   | (simp at h5;lia)
 cases hwl with
 | cons w1 w2=>
  cases w2
  cases w1 with
  | list ho hall=>exact⟨_,_,ns,rfl,rfl,ho,kG ns _ hall,hlen⟩
theorem uS (l:OpenLaw) (args:List WData):l.row.toRowW.claim.post args (.bool true) args=true:=
 postW_of (r:=l.row.toRowW) (X:=(true==true))
  (show WShape.has [] (.bool true) .bool=true by first|rfl|decide|simp[WShape.has,WShape.arms,WShape.armsAll])
  (show(WTm.eq .res (.lit (.bool true))).value [] { args:=args,res:=some (.bool true),after:=args }=some (.bool (true==true)) from w_eq_bool (w_res rfl) w_lit) rfl
theorem qX {l:OpenLaw}{n:Nat}{q:Program}{loose:List Str}{XP:(Str->Option Value)->Heap->Prop}{YP:World->Heap->Prop}{d:DefRec}
  (hn:l.most=some n) (hdf:d.params.defaults=[])
  (call:∀(w:World) (s₀ s₁:Shared) (mg mb:Str->Option Value) (fa:Addr) (o:Obj) (pm cd doc:Value) (a:Addr) (vs:List Value) (ns:List Int),
   Ground q loose [] XP w s₀ mg mb s₁.heap->YP w s₁.heap->
   s₁.heap.get? fa=some o->o.data=.func (docDef d.name d.params d.body d.scope pm cd doc)->s₁.heap.CodeRec cd d.name->mg d.name=some (.ref fa)->
   s₁.heap.get? a=some { cls:=.type "list",data:=.seq vs.toArray }->IntsAre vs ns->ns.length≤n->s₁.gens=#[]->
   codeAny (model l.prog w) callerA (.call (.ref fa) ⟨[.ref a],[]⟩) (fun r s'=>r=.ok (.ret (.bool true))∧OldK s₁.heap s'.heap∧s'.os=s₁.os∧AllBare s'.gens) s₁) :
  WalkO q loose XP YP l.row.toRowW d [] (fun f vs=>PySem.call f vs):=by
 intro w s₀ s₁ mg mb G Y fa o pm cd doc dV kV ho hd hcd hD hmg hg args vals as hpre hlay hrd hwl hlo
 obtain rfl:dV=.none:=Dflts.none hD hdf
 obtain rfl:kV=.none:=Dflts.noKw hD
 obtain⟨a,vs,ns,rfl,rfl,hobj,hints,hlen⟩:=uR hn hpre hwl
 refine enter_call (codeAny_mono (call w s₀ s₁ mg mb fa o pm cd doc a vs ns G Y ho (fd_plain hd) hcd hmg hobj hints hlen hg) fun r s' hq=>?_)
 obtain⟨rfl,h2,h3,h4⟩:=hq
 exact⟨.inl ⟨.bool true,.bool true,[],rfl,fun _=>rfl,.bool true,uS l _,fun _=>⟨List.Pairwise.nil,fun _ hm=>(nomatch hm)⟩⟩,h2,h3,h4⟩
section
variable {prog:Program}{w:World}{A:Around}{E:Value->Shared->Prop}{s:Shared}{K:Frag}
end
end Att
namespace L2
open PySem PySem.Spec PyProof.Rows
theorem iU:∀{vs:List Value}{ns:List Int},IntsAre vs ns->av (ns.map V.int) vs
 | _,_,.nil=>.nil
 | _,_,.cons n t h=>.cons ⟨t,rfl⟩ (iU h)
def wJ (H:Hp):Prop:=∀b,H b=none∨∃o xs,H b=some (.frz o (.lst xs))
theorem wK {P:Program}{w:World}{K:W.Frag}{mg mb:Str->Option Value}{CX:CXT}{k:Nat}{fa a:Addr}{fd:FuncData}{x:Str}{sp:Sp}{s₁:Shared}{vs:List Value}{ns:List Int}
  (KX:K.In s₁.heap) (hns:s₁.heap.Ns mainGlobals mg) (hb:s₁.heap.Ns builtinsNs mb) (hbb:∀x:Str,x≠"__name__"->mb x=bootBuiltins x) (hlim:s₁.heap.NoLimit) (hg:s₁.gens=#[])
  (ha:s₁.heap.get? a=some { cls:=.type "list",data:=.seq vs.toArray }) (hi:IntsAre vs ns) (hl:ns.length≤sizeLine) (hr:Room k callerA)
  (F:∀base:Heap,K.In base->base.Ns mainGlobals mg->FnOk P w K mg base CX k fa fd [x] sp) (hbind:∀(s:Shared) (u:Value),BindsTo s fd ⟨[u],[]⟩ [(x,u)])
  (hsp:∀H:Hp,wJ H->SqL K H a (ns.map V.int)->sp [.ref a] H (fun v _=>v=.bl true) fun _ _ _=>False)
  (hCX:∀H e s',CX [] H s₁ (fun _ _ _=>False) e s'->False) :
  codeAny (model P w) callerA (.call (.ref fa) ⟨[.ref a],[]⟩) (fun r s'=>r=.ok (.ret (.bool true))∧OldK s₁.heap s'.heap∧s'.os=s₁.os∧AllBare s'.gens) s₁:=by
 have rv:=iU hi
 have lenV:=hi.length
 have core:∀H:Hp,wJ H->SqL K H a (ns.map V.int)->HOk P w H s₁.heap->(∀b,H b≠none->b=a)->(H a≠none->K.lookup a=none)->
   codeAny (model P w) callerA (.call (.ref fa) ⟨[.ref a],[]⟩) (fun r s'=>r=.ok (.ret (.bool true))∧OldK s₁.heap s'.heap∧s'.os=s₁.os∧AllBare s'.gens) s₁:=by
  intro H hO hS hok hA hK
  have base_of:∀{b:Addr}{o:Obj},s₁.heap.get? b=some o->H b=none->(hG s₁.heap H).get? b=some o:=fun e n=>wr e n
  have noA:∀{b:Addr}{o:Obj}{es:Array DictEntry}{ep:Nat},s₁.heap.get? b=some o->o.data=.dict es ep->H b=none:=fun {b o es ep} e d=>by
   cases q:H b with
   | none=>rfl
   | some u=>
    have e':b=a:=hA b (by rw[q];simp)
    subst e'
    rw[ha] at e;cases e
    have d':Data.seq vs.toArray _=Data.dict es ep:=d
    cases d'
  have nsK:∀{b:Addr}{m:Str->Option Value},s₁.heap.Ns b m->(hG s₁.heap H).Ns b m:=fun {b m} ⟨o,es,ep,e,d,r⟩=>⟨o,es,ep,base_of e (noA e d),d,r⟩
  have hKb:K.In (hG s₁.heap H):=fun b o e=>base_of (KX b o e) (by
   cases q:H b with
   | none=>rfl
   | some u=>
    have e':b=a:=hA b (by rw[q];simp)
    subst e'
    rw[hK (by rw[q];simp)] at e;cases e)
  have hM:Mod K mg (hG s₁.heap H):=⟨hKb,nsK hns,⟨mb,nsK hb,hbb⟩,let ⟨mc,h1,h2⟩:=hlim;⟨mc,nsK h1,h2⟩⟩
  have e0:Env0 P w K mg (hG s₁.heap H) callerA [] s₁ H:=⟨rfl,hM,fun b o e=>yJ e,Nat.le_of_eq (uA _ _),trivial,fun b hb=>absurd (show b∈([]:List Addr) from hb) (by simp),hok,.of_eq hg⟩
  refine codeAny_mono ((F _ hKb (nsK hns)).run callerA [] s₁ H ⟨[.ref a],[]⟩ [.ref a] [.ref a] _ _ hr e0 (hbind s₁ (.ref a)) (.cons rfl .nil) (hsp H hO hS)) fun r s' h=>?_
  cases r with
  | error e=>exact(hCX H e s' h).elim
  | ok fl=>
   cases fl with
   | next=>exact False.elim h
   | brk=>exact False.elim h
   | cont=>exact False.elim h
   | ret u=>
    obtain⟨v,H',os,bare,un,hok',r',q⟩:=h
    have q':v=.bl true:=q
    subst q'
    obtain rfl:u=Value.bool true:=r'
    refine⟨rfl,OldK.of_keep fun b o e=>?_,os,bare⟩
    cases q:H b with
    | none=>exact un.keep b o e q (by intro z;exact absurd (show b∈([]:List Addr) from z) (by simp)) (by simp)
    | some u=>
     rcases hO b with z|⟨ob,xs,z⟩
     ·rw[q] at z;cases z
     ·have z2:=un.frzs b ob _ z
      obtain⟨e1,_⟩:=hok b _ z
      obtain⟨e2,_⟩:=hok' b _ z2
      rw[e] at e1;cases e1
      exact e2
 cases hk:K.lookup a with
 | some o=>
  have e:=KX a o hk
  rw[ha] at e
  cases e
  refine core (fun _=>none) (fun _=>.inl rfl) (.inr ⟨_,vs.toArray,_,hk,rfl,rfl,rfl,by rw[List.size_toArray,lenV];exact hl,by simpa using rv⟩) (fun b u z=>by have z':(none:Option HO)=some u:=z;cases z') (fun b z=>absurd rfl z) fun z=>absurd rfl z
 | none=>
  refine core (fun b=>if b=a then some (.frz { cls:=.type "list",data:=.seq vs.toArray } (.lst (ns.map V.int))) else none) (fun b=>?_) (.inl (.inr ⟨{ cls:=.type "list",data:=.seq vs.toArray },if_pos rfl⟩)) (fun b u z=>?_) (fun b z=>?_) fun _=>hk
  ·by_cases hb:b=a
   ·exact .inr ⟨_,_,if_pos hb⟩
   ·exact .inl (if_neg hb)
  ·by_cases hb:b=a
   ·have z':=(if_pos hb).symm.trans z
    cases z'
    subst hb
    exact⟨ha,by rw[List.length_map];exact hl,vs,_,rv,ha⟩
   ·have z':=(if_neg hb).symm.trans z
    cases z'
  ·by_cases hb:b=a
   ·exact hb
   ·exact absurd (if_neg hb) z
end L2
namespace L2
open PySem PySem.Spec PyProof.Rows
theorem yU {l:W.OpenLaw}{n k:Nat}{q:Program}{loose:List Str}{XP:(Str->Option Value)->Heap->Prop}{YP:World->Heap->Prop}{d:DefRec}{K:Params->W.Frag}{CX:World->CXT}{sp:World->Sp}{x:Str}
  (hn:l.most=some n) (hn2:n≤sizeLine) (hdf:d.params.defaults=[]) (hr:Room k callerA)
  (hY:∀(w:World) (h:Heap),YP w h->(K w.params).In h)
  (F:∀(w:World) (mg:Str->Option Value) (fa:Addr) (h:Heap),(K w.params).In h->h.Ns mainGlobals mg->mg d.name=some (.ref fa)->
   ∃fd:FuncData,(∀(s:Shared) (u:Value),BindsTo s fd ⟨[u],[]⟩ [(x,u)])∧
    ∀base:Heap,(K w.params).In base->base.Ns mainGlobals mg->FnOk l.prog w (K w.params) mg base (CX w) k fa fd [x] (sp w))
  (hsp:∀(w:World) (H:Hp) (a:Addr) (ns:List Int),ns.length≤n->wJ H->SqL (K w.params) H a (ns.map V.int)->sp w [.ref a] H (fun v _=>v=.bl true) fun _ _ _=>False)
  (hCX:∀(w:World) (H:Hp) (s:Shared) (e:Value) (s':Shared),CX w [] H s (fun _ _ _=>False) e s'->False) :
  W.WalkO q loose XP YP l.row.toRowW d [] (fun f vs=>PySem.call f vs):=by
 refine Att.qX hn hdf fun w s₀ s₁ mg mb fa o pm cd doc a vs ns G Y ho hd hcd hmg hobj hints hlen hg=>?_
 have KX:=hY w _ Y
 obtain⟨fd,hb,hF⟩:=F w mg fa _ KX G.T.g hmg
 exact wK KX G.T.g G.T.b G.T.builtins G.T.nolimit hg hobj hints (Nat.le_trans hlen hn2) hr hF hb (fun H hO hS=>hsp w H a ns hlen hO hS) fun H e s'=>hCX w H s₁ e s'
end L2
namespace L2
open PySem PySem.Spec PyProof.Rows
def cU (s:Stmt):Arguments:=match s with
 | .FunctionDef _ a _ _ _ _ _ _ _ _=>a
 | _=>{ posonlyargs:=[],args:=[],vararg:=none,kwonlyargs:=[],kw_defaults:=[],kwarg:=none,defaults:=[] }
def cj (s:Stmt):List Stmt:=match s with
 | .FunctionDef _ _ b _ _ _ _ _ _ _=>b
 | _=>[]
def am (s:Stmt):Scope:=match s with
 | .FunctionDef _ _ _ _ _ _ sc _ _ _=>sc
 | _=>{ kind:=.function,names:=[],isGenerator:=false,isCoroutine:=false }
abbrev CX0:CXT:=fun _ _ _ _ _ _=>False
abbrev E0:XK:=fun _ _ _=>False
theorem yc {X:Cx}:iT CX0 X E0:=fun _ _ _ _ _ _ _ h=>h.elim
structure Fun (K:W.Frag) (x qual:Str) (st:Stmt) (f:Addr) (fd:FuncData):Prop where
 ex:∃(oc:Value) (od:Option Addr) (kV doc pm:Value) (an:Option Addr) (cdv ct:Value) (osl:Array (Option Value)),
  fd=W.fnOf x qual (cU st) (cj st) (am st) .none kV doc pm an cdv ct∧K.lookup f=some ⟨oc,od,.func fd,osl⟩∧W.codeIn K cdv qual=true
 kp:W.keepIn K (.ref f)=true
section
variable {P:Program}{w:World}{K:W.Frag}{mg:Str->Option Value}{base:Heap}
theorem Fun.ok {x qual:Str}{st:Stmt}{f:Addr}{fd:FuncData}{N ps:List Str}{k:Nat}{sp:Sp}(F:Fun K x qual st f fd) (S:FnScope N ps (am st)) (len:∀vs H Q E,sp vs H Q E->vs.length=ps.length)
  (hbody:∀(cdv:Value) (A:Around) (outer:List Env) (s:Shared) (H:Hp) (vs:List V) (Q:VK) (E:XK),Room k (A.deeper (envOfC qual (am st) s.heap.objs.size f cdv))->sp vs H Q E->
   ∃t,PSs (bw CX0 P w K mg base N qual (am st) f cdv A outer s H E).nox (cj st) t∧t { nx:=fun _ H'=>Q .non H',rt:=Q } (fH N vs) H):FnOk P w K mg base CX0 (k+1) f fd ps sp:=by
 obtain⟨oc,od,kV,doc,pm,an,cdv,ct,osl,rfl,lk,hcd⟩:=F.ex
 refine yb lk hcd S len fun A outer s H vs Q E hr hsp=>?_
 obtain⟨t,h,q⟩:=hbody cdv A outer s H vs Q E hr hsp
 exact⟨t,h.nox,q⟩
theorem Fun.binds {x qual:Str}{st:Stmt}{f:Addr}{fd:FuncData}{ps:List Str}(F:Fun K x qual st f fd)
  (h:∀(kV doc pm:Value) (an:Option Addr) (cdv ct:Value) (us:List Value),us.length=ps.length->bindArgs (W.fnOf x qual (cU st) (cj st) (am st) .none kV doc pm an cdv ct) ⟨us,[]⟩=pure (ps.zip us)):cC K fd ps []:=by
 obtain⟨oc,od,kV,doc,pm,an,cdv,ct,osl,rfl,lk,hcd⟩:=F.ex
 exact .all (h kV doc pm an cdv ct)
theorem uT {x qual:Str}{st:Stmt}{f:Addr}{oc:Value}{od an:Option Addr}{osl:Array (Option Value)}{kV doc pm cdv ct:Value}(l:K.lookup f=some ⟨oc,od,.func (W.fnOf x qual (cU st) (cj st) (am st) .none kV doc pm an cdv ct),osl⟩)
  (c:W.codeIn K cdv qual=true) (k:W.keepIn K (.ref f)=true):Fun K x qual st f (W.fnOf x qual (cU st) (cj st) (am st) .none kV doc pm an cdv ct):=⟨⟨oc,od,kV,doc,pm,an,cdv,ct,osl,rfl,l,c⟩,k⟩
end
theorem nW {A:Around}{k:Nat}(hr:Room k A):A.units+1<cLine:=Nat.lt_of_le_of_lt (Nat.add_le_add_left (by decide:1≤64) _) hr.units
section
variable {X:Cx}
theorem pv (i:Nat) {x:Str}{pos:Pos}(hN:X.N[i]?=some x:=by rfl) (hv:Vis X.env.scope x:=by first|exact Or.inl rfl|exact Or.inr (Or.inl rfl)|exact Or.inr (Or.inr rfl)) (hd:(x==("__debug__":Str))=false:=by decide)
  (hcd:(x==("__classdict__":Str))=false:=by decide):PE X (.Name x pos) (ox i):=Al hN hv hd hcd
end
theorem aO {A B:Prop}(h:B):if false=true then A else B:=by
 rw[if_neg Bool.false_ne_true]
 exact h
theorem aG {A B:Prop}(h:A):if true=true then A else B:=by
 rw[if_pos rfl]
 exact h
theorem tu {c A B:Prop} [Decidable c] (h1:c->A) (h2:¬c->B):if c then A else B:=by
 by_cases h:c
 ·rw[if_pos h]
  exact h1 h
 ·rw[if_neg h]
  exact h2 h
def ar (H H':Hp):Prop:=∀b o,H b=some o->H' b=some o
theorem ar.refl (H:Hp):ar H H:=fun _ _ h=>h
theorem ar.trans {H H1 H2:Hp}(a:ar H H1) (b:ar H1 H2):ar H H2:=fun c o h=>b c o (a c o h)
theorem ar.free {H H':Hp}(e:ar H H') {l:Addr}(h:H' l=Option.none):H l=Option.none:=by
 cases q:H l with
 | none=>rfl
 | some o=>
  rw[e l o q] at h
  cases h
end L2
set_option maxHeartbeats 4000000
namespace L2
open PySem PySem.Spec PyProof.Rows
def Cx0 (e:Addr) (h:Heap):Prop:=∃oe vs,h.get? e=some oe∧oe.data=.fields vs∧vs[2]?=some .none
def wL (f:Obj->Obj):Prop:=∀o vs,o.data=.fields vs->vs[2]?=some Value.none->∃vs',(f o).data=.fields vs'∧vs'[2]?=some Value.none
theorem Cx0.update {e a:Addr}{h:Heap}{f:Obj->Obj}(m:wL f) (c:Cx0 e h):Cx0 e (h.update a f):=by
 obtain⟨o,vs,e1,e2,e3⟩:=c
 by_cases z:a=e
 ·subst z
  obtain⟨vs',q1,q2⟩:=m o vs e2 e3
  exact⟨_,vs',Heap.get?_update_self f e1 (Obj.isFreed_of_fields q1),q1,q2⟩
 ·exact⟨o,vs,(Heap.get?_update_other h f z).trans e1,e2,e3⟩
theorem Cx0.push {e:Addr}{h:Heap}(o:Obj) (c:Cx0 e h):Cx0 e (h.push o):=by
 obtain⟨o',vs,e1,e2,e3⟩:=c
 exact⟨o',vs,Heap.get?_push_of_some _ e1,e2,e3⟩
theorem fI {i:Nat}{v:Value}(hi:i≠2):wL (Obj.mapFields (·.setIfInBounds i v)):=fun o vs h h2=>⟨_,Obj.data_mapFields h _,by rw[Array.getElem?_setIfInBounds_ne hi];exact h2⟩
def Fl {α:Type}:Sem α->Prop
 | .rule _ k=>Fl (k ())
 | .at _ k=>Fl (k ())
 | .load _ _ k=>∀o,Fl (k o)
 | .update _ _ f k=>wL f∧Fl (k ())
 | .alloc _ k=>∀a,Fl (k a)
 | .loadIfAlive _ k=>∀o,Fl (k o)
 | .point _ k=>Fl (k ())
 | .fresh k=>∀t,Fl (k t)
 | .ask k=>∀t,Fl (k t)
 | .handled _ k=>∀t,Fl (k t)
 | .stack k=>∀t,Fl (k t)
 | .thread k=>∀t,Fl (k t)
 | .choose _ _ _=>False
 | .os _ _ _=>False
 | .call _ _ _ _ _=>False
 | .newGen _ _=>False
 | .genState _ _=>False
 | .resume _ _ _ _=>False
 | _=>True
theorem bu {α β:Type}:∀(t:Sem α) {k:α->Sem β},Fl t->(∀a,Fl (k a))->Fl (t.bind k):=by
 intro t
 induction t with
 | pure a=>intro k _ h;exact h a
 | raise e=>intro k _ h;exact trivial
 | unsupported w=>intro k _ h;exact trivial
 | finish e=>intro k _ h;exact trivial
 | rule tag k' ih=>intro k h1 h2;exact ih () h1 h2
 | «at» p k' ih=>intro k h1 h2;exact ih () h1 h2
 | load a p k' ih=>intro k h1 h2 o;exact ih o (h1 o) h2
 | update a p f k' ih=>intro k h1 h2;exact⟨h1.1,ih () h1.2 h2⟩
 | alloc o k' ih=>intro k h1 h2 a;exact ih a (h1 a) h2
 | loadIfAlive a k' ih=>intro k h1 h2 o;exact ih o (h1 o) h2
 | point l k' ih=>intro k h1 h2;exact ih () h1 h2
 | fresh k' ih=>intro k h1 h2 o;exact ih o (h1 o) h2
 | ask k' ih=>intro k h1 h2 o;exact ih o (h1 o) h2
 | handled b k' ih=>intro k h1 h2 o;exact ih o (h1 o) h2
 | stack k' ih=>intro k h1 h2 o;exact ih o (h1 o) h2
 | thread k' ih=>intro k h1 h2 o;exact ih o (h1 o) h2
 | choose s n k' ih=>intro k h1 h2;exact h1.elim
 | os q l k' ih=>intro k h1 h2;exact h1.elim
 | call c h g l k' ih=>intro k h1 h2;exact h1.elim
 | newGen c k' ih=>intro k h1 h2;exact h1.elim
 | genState g k' ih=>intro k h1 h2;exact h1.elim
 | resume g r l k' ih=>intro k h1 h2;exact h1.elim
 | register a k' ih=>intro k h1 h2;exact trivial
 | yield v g l k' ih=>intro k h1 h2;exact trivial
 | fork c k' ih=>intro k h1 h2;exact trivial
 | await a t b l k' ih=>intro k h1 h2;exact trivial
theorem yV {α:Type}{M:Model}{Γ:PySem.Ctx}{e:Addr}:∀(t:Sem α) {Q:α->Pos->Shared->Prop}{E:Value->Pos->Shared->Prop}{p:Pos}{s:Shared},Fl t->Sem.wp M Γ t Q E p s->Cx0 e s.heap->
  Sem.wp M Γ t (fun a p' s'=>Q a p' s'∧Cx0 e s'.heap) (fun x p' s'=>E x p' s'∧Cx0 e s'.heap) p s:=by
 intro t
 induction t with
 | pure a=>intro Q E p s _ h c;exact⟨h,c⟩
 | raise e=>intro Q E p s _ h c;exact⟨h,c⟩
 | unsupported w=>intro Q E p s _ h c;exact h.elim
 | finish e=>intro Q E p s _ h c;exact h.elim
 | rule tag k' ih=>intro Q E p s f h c;exact ih () f h c
 | «at» p' k' ih=>intro Q E p s f h c;exact ih () f h c
 | load a p' k' ih=>intro Q E p s f h c;obtain⟨o,q1,q2⟩:=h;exact⟨o,q1,ih o (f o) q2 c⟩
 | update a p' g k' ih=>intro Q E p s f h c;exact⟨h.1,ih () f.2 h.2 (c.update f.1)⟩
 | alloc o k' ih=>intro Q E p s f h c;exact ih _ (f _) h (c.push o)
 | loadIfAlive a k' ih=>intro Q E p s f h c;exact ih _ (f _) h c
 | point l k' ih=>intro Q E p s f h c;exact ih () f h c
 | fresh k' ih=>intro Q E p s f h c;exact ih _ (f _) h c
 | ask k' ih=>intro Q E p s f h c;exact ih _ (f _) h c
 | handled b k' ih=>intro Q E p s f h c;exact ih _ (f _) h c
 | stack k' ih=>intro Q E p s f h c;exact ih _ (f _) h c
 | thread k' ih=>intro Q E p s f h c;exact ih _ (f _) h c
 | choose s n k' ih=>intro Q E p s f h c;exact f.elim
 | os q l k' ih=>intro Q E p s f h c;exact f.elim
 | call cc hh g l k' ih=>intro Q E p s f h c;exact f.elim
 | newGen cc k' ih=>intro Q E p s f h c;exact f.elim
 | genState g k' ih=>intro Q E p s f h c;exact f.elim
 | resume g r l k' ih=>intro Q E p s f h c;exact f.elim
 | register a k' ih=>intro Q E p s f h c;exact h.elim
 | yield v g l k' ih=>intro Q E p s f h c;exact h.elim
 | fork cc k' ih=>intro Q E p s f h c;exact h.elim
 | await a t b l k' ih=>intro Q E p s f h c;exact h.elim
theorem jo {α:Type}{M:Model}{A:Around}{e:Addr}{t:Sem α}{Q:α->Shared->Prop}{E:Value->Shared->Prop}{s:Shared}(f:Fl t) (h:wpAny M A t Q E s) (c:Cx0 e s.heap) :
  wpAny M A t (fun a s'=>Q a s'∧Cx0 e s'.heap) (fun x s'=>E x s'∧Cx0 e s'.heap) s:=fun Γ p hΓ=>yV t f (h Γ p hΓ) c
theorem hV {α:Type}{M:Model}{A:Around}{e:Addr}{p:Prop}{t:Sem α}{Q:α->Shared->Prop}{E:Value->Shared->Prop}{s:Shared}(f:Fl t) (h:wpAny M A t Q E s) (c:p->Cx0 e s.heap) :
  wpAny M A t (fun a s'=>Q a s'∧(p->Cx0 e s'.heap)) (fun x s'=>E x s'∧(p->Cx0 e s'.heap)) s:=by
 by_cases hp:p
 ·exact wpAny_mono (jo f h (c hp)) (fun _ _ z=>⟨z.1,fun _=>z.2⟩) fun _ _ z=>⟨z.1,fun _=>z.2⟩
 ·exact wpAny_mono h (fun _ _ z=>⟨z,fun q=>absurd q hp⟩) fun _ _ z=>⟨z,fun q=>absurd q hp⟩
theorem qY (v:Value):Fl (fieldsOf v):=by
 unfold fieldsOf
 cases v <;> first
  | exact trivial
  | (refine bu _ (fun o=>trivial) fun o=>?_;cases o.data <;> exact trivial)
theorem hW (v:Value) (i:Nat):Fl (field v i):=by
 unfold field
 refine bu _ (qY v) fun vs=>?_
 cases vs[i]? <;> exact trivial
theorem gx (v:Value) {i:Nat}(x:Value) (hi:i≠2):Fl (setField v i x):=by
 unfold setField
 cases v <;> first
  | exact trivial
  | (unfold updateField;refine bu _ (fun o=>trivial) fun o=>?_;split;split;exact⟨fI hi,trivial⟩;exact trivial;exact trivial)
theorem fQ (e:Value) (f:Option Addr):Fl (setFlight e f):=by
 unfold setFlight
 refine bu _ (hW e 1) fun tb=>?_
 split
 ·exact gx _ _ (by decide)
 ·exact trivial
theorem jP (env:Env) (l:List Env):Fl (behindIsImport env l):=by
 unfold behindIsImport
 repeat (first|exact trivial|split|(refine bu _ (hW _ _) fun _=>?_))
theorem qZ (env:Env) (b:Bool) (l:List Env):Fl (keptBack env b l):=by
 unfold keptBack
 cases l with
 | nil=>
  show Fl (if _ then _ else _)
  split
  ·exact trivial
  ·exact fun _=>trivial
 | cons c r=>exact trivial
theorem gM:∀l:List Env,Fl (readyFrames l)
 | []=>trivial
 | env::outer=>by
  unfold readyFrames
  split
  ·refine bu _ (fun o=>trivial) fun o=>?_
   split
   ·exact trivial
   ·refine bu _ (jP env outer) fun b=>bu _ (qZ env b outer) fun k=>bu _ ?_ fun _=>gM outer
    exact⟨fun o vs h h2=>⟨vs,h,h2⟩,trivial⟩
  ·exact trivial
theorem tz (env:Env):Fl (PySem.frameOf env):=by
 unfold PySem.frameOf frameEnvs
 refine bu _ (fun _=>trivial) fun l=>bu _ ?_ fun o=>by cases o <;> exact trivial
 generalize List.dropWhile _ _=l'
 cases l' with
 | nil=>exact trivial
 | cons a r=>exact bu _ (gM (a::r)) fun _=>trivial
theorem kH (f:Addr) (b:Bool):Fl (entryPlaceOf f b):=by
 unfold entryPlaceOf
 refine bu _ (fun _=>trivial) fun l=>?_
 split <;> exact trivial
theorem oH (ty:String) (vs:List Value):Fl (newFields ty vs):=by
 unfold newFields newObj
 dsimp only
 split
 ·exact trivial
 ·unfold newObjAsIs
  exact fun a=>trivial
theorem fR (e:Value) (env:Env):Fl (noteFrame e env):=by
 unfold noteFrame
 split
 ·rename_i f hf
  refine bu _ (hW e 1) fun head=>?_
  have fin:∀b:Bool,Fl (do setField e 1 (←EntryCells.newEntry head (←PySem.frameOf env) .none (rawInt f) .none (←entryPlaceOf f b))):=fun b=>bu _ (tz env) fun a=>bu _ (kH f b) fun pl=>bu _ (oH _ _) fun x=>gx _ _ (by decide)
  split
  ·refine bu _ (hW head 3) fun x=>?_
   split
   ·exact trivial
   ·exact bu _ (gx _ _ (by decide)) fun _=>fin _
  ·exact fin _
 ·exact trivial
theorem hZ (e:Value) (env:Env):Fl (leaving env e):=bu _ (fR e env) fun _=>fQ e none
end L2
namespace L2
open PySem PySem.Spec PyProof.Rows
theorem kI {P:Program}{w:World}{H:Hp}{h:Heap}{a:Addr}{o:HO}(x:aS P w H h a o):∃u,h.get? a=some u:=by
 cases o with
 | lst xs=>obtain⟨_,_,_,_,e⟩:=x;exact⟨_,e⟩
 | tup xs=>obtain⟨_,_,_,_,e,_⟩:=x;exact⟨_,e⟩
 | dK kvs=>obtain⟨_,_,_,_,o,_,_,e,_⟩:=x;exact⟨_,e⟩
 | dT kvs=>obtain⟨_,_,_,_,o,_,_,e,_⟩:=x;exact⟨_,e⟩
 | set S n=>obtain⟨o,_,_,_,e,_⟩:=x;exact⟨_,e⟩
 | ins C dx fs=>obtain⟨_,_,_,e,_⟩:=x;exact⟨_,e⟩
 | own y=>obtain⟨_,e⟩:=x;exact⟨_,e⟩
 | xd fs=>obtain⟨_,⟨_,_,_,e,_⟩,_⟩:=x;exact⟨_,e⟩
 | rng lo hi=>obtain⟨_,_,_,e⟩:=x;exact⟨_,e⟩
 | frz ob u=>obtain⟨e,_⟩:=x;exact⟨_,e⟩
 | tbl ps=>exact⟨_,show h.get? a=some _ from x⟩
 | met f y=>exact⟨_,show h.get? a=some _ from x⟩
 | ext φ=>obtain⟨_,⟨_,e⟩,_⟩:=x;exact⟨_,e⟩
def Trc (h:Heap) (e:Addr) (cls:Value) (T:Addr):Prop:=
 ∃a0 oe vs oT ts,h.get? e=some oe∧(oe.cls=cls∧vs[0]?=some a0)∧oe.data=.fields vs∧vs[1]?=some (.ref T)∧T≠e∧h.get? T=some oT∧oT.data=.fields ts∧ts[3]?=some .none
theorem Trc.traced {h B:Heap}{e T:Addr}{cls:Value}(x:Trc h e cls T) (hT:B.get? T=none):∃a0,h.TracedW B e cls a0:=by
 obtain⟨a0,oe,vs,oT,ts,x1,x2,x3,x4,x5,x6⟩:=x
 exact⟨a0,oe,vs,T,oT,ts,x1,x2,x3,x4,hT,x5,x6⟩
theorem kJ {h B:Heap}{e:Addr}{cls a0:Value}(x:h.TracedW B e cls a0):∃T,Trc h e cls T∧B.get? T=none:=by
 obtain⟨oe,vs,T,oT,ts,x1,x2,x3,x4,hT,x5,x6⟩:=x
 exact⟨T,⟨a0,oe,vs,oT,ts,x1,x2,x3,x4,x5,x6⟩,hT⟩
structure Fly (h0:Heap) (H:Hp) (e:Addr) (cls:Value) (h:Heap):Prop where
 new:h0.get? e=none
 free:H e=none
 tr:∃T,Trc h e cls T∧h0.get? T=none∧H T=none
def CX1 (P:Program) (w:World):CXT:=fun outer H s E e s'=>
 ∃(ea:Addr) (cls:Value) (n:Option Addr) (H':Hp),e=.ref ea∧s'.os=s.os∧AllBare s'.gens∧Un (frs outer) [] H H' s.heap s'.heap∧HOk P w H' s'.heap∧Fly s.heap H' ea cls s'.heap∧(n=none->Cx0 ea s'.heap)∧E cls n H'
section
variable {X:Cx}{aa:List (Addr×Obj)}{σ:St}{H:Hp}{s:Shared}
theorem yd (hso:X.stack=X.env::X.outer) {b:Addr}(hb:b∈X.fs):b∈frs X.stack:=by
 rw[hso]
 obtain⟨env,he,hf⟩:=List.mem_filterMap.mp hb
 exact List.mem_filterMap.mpr ⟨env,List.mem_cons_of_mem _ he,hf⟩
theorem fq (I:Inv X aa σ H s) {b:Addr}(hb:b∈frs X.stack):∃o,s.heap.get? b=some o∧∀vs,o.data≠.fields vs:=(I.stack.mem hb).2
theorem jp {h':Heap}{e:Addr}{cls a0:Value}{l:List Addr}{E:XK}(I:Inv X aa σ H s) (hex:X.ex=[]) (hso:X.stack=X.env::X.outer)
  (hl:∀b∈l,H b=none∧X.s₀.heap.get? b=none) (he:H e=none) (he0:X.s₀.heap.get? e=none)
  (st:∀b o,b∉frs X.stack->b∉l->s.heap.get? b=some o->h'.get? b=some o) (up:s.heap.UpToSlots h')
  (tr:h'.TracedW (W.hideAll s.heap (frs X.stack++l)) e cls a0) {n:Option Addr}(hcx:n=none->Cx0 e h') (q:E cls n H) :
  CX1 X.prog X.w X.outer X.H₀ X.s₀ E (.ref e) { s with heap:=h' }:=by
 have noex:∀b,b∉X.ex:=fun b z=>by rw[hex] at z;exact absurd z (by simp)
 have nfr:∀b o,X.s₀.heap.get? b=some o->b∉X.fs->b∉frs X.stack:=fun b o e1 nb z=>by
  rcases List.mem_cons.mp (I.stkSub b z) with r|r
  ·exact absurd (Nat.lt_of_lt_of_le (Heap.lt_size e1) I.ok.above) (by rw[r];exact Nat.lt_irrefl _)
  ·exact nb r
 have nl:∀b o,X.s₀.heap.get? b=some o->b∉l:=fun b o e1 z=>by rw[(hl b z).2] at e1;cases e1
 have frUp:∀b,b∈frs X.stack->∃o sl,s.heap.get? b=some o∧(∀vs,o.data≠.fields vs)∧h'.get? b=some { o with slots:=sl }:=fun b hb=>by
  obtain⟨o,e1,nd⟩:=fq I hb
  obtain⟨sl,e2⟩:=up b o e1 nd
  exact⟨o,sl,e1,nd,e2⟩
 obtain⟨T,trc,hT⟩:=kJ tr
 refine⟨e,cls,n,H,rfl,I.os,I.bare,⟨fun b o e1 n hb _=>?_,fun b o e1 n hb _=>?_,fun b o e1 n _=>I.base.free b o e1 n (noex b),fun b o e1 _=>?_,I.base.tups,I.base.frzs,I.base.tbls⟩,fun a o ea=>?_,⟨he0,he,T,trc,?_,?_⟩,hcx,q⟩
 ·exact st b o (nfr b o e1 hb) (nl b o e1) (I.base.keep b o e1 n hb (noex b))
 ·obtain⟨sl,e2⟩:=I.base.slot b o e1 n hb (noex b)
  obtain⟨o',sl',e3,nd,e4⟩:=frUp b (yd hso hb)
  rw[e2] at e3
  cases e3
  exact⟨sl',e4⟩
 ·obtain⟨o',e2⟩:=I.base.there b o e1 (noex b)
  by_cases hb:b∈frs X.stack
  ·obtain⟨_,_,_,_,e4⟩:=frUp b hb
   exact⟨_,e4⟩
  ·exact⟨o',st b o' hb (nl b o e1) e2⟩
 ·refine(I.hok a o ea).stay (fun b u hb e1=>st b u (fun z=>?_) (fun z=>?_) e1) (fun _ z=>z) fun _ _ z=>z
  ·have n:=I.stkFree b z
   rcases hb with r|r
   ·rw[r,ea] at n;cases n
   ·rw[r] at n;cases n
  ·have n:=(hl b z).1
   rcases hb with r|r
   ·rw[r,ea] at n;cases n
   ·rw[r] at n;cases n
 all_goals
  have nfT:T∉frs X.stack:=fun z=>by
   obtain⟨o,sl,_,nd,e4⟩:=frUp T z
   obtain⟨_,_,_,oT,ts,_,_,_,_,_,e5,e6,_⟩:=trc
   rw[e4] at e5
   cases e5
   exact nd ts e6
  have old:T∈l∨s.heap.get? T=none:=by
   by_cases z:T∈l
   ·exact .inl z
   ·refine .inr ?_
    cases e1:s.heap.get? T with
    | none=>rfl
    | some o=>
     rw[W.hideAll_get _ e1 (fun m=>(List.mem_append.mp m).elim nfT z)] at hT
     cases hT
 ·rcases old with z|z
  ·exact(hl T z).2
  ·cases e1:X.s₀.heap.get? T with
   | none=>rfl
   | some o=>
    obtain⟨o',e2⟩:=I.base.there T o e1 (noex T)
    rw[z] at e2
    cases e2
 ·rcases old with z|z
  ·exact(hl T z).1
  ·cases e1:H T with
   | none=>rfl
   | some o=>
    obtain⟨u,e2⟩:=kI (I.hok T o e1)
    rw[z] at e2
    cases e2
end
def bI (CX:CXT) (X:Cx) (E:St->XK):Prop:=∀(aa:List (Addr×Obj)) (σ:St) (H:Hp) (s:Shared) (e:Value) (s':Shared),Inv X aa σ H s->CX X.stack H s (E σ) e s'->X.xe e s'
def oI (X:Cx) (E:St->XK):Prop:=∀(aa:List (Addr×Obj)) (σ:St) (H:Hp) (s:Shared) (h':Heap) (e:Addr) (cls:Value) (vs:List Value),Inv X aa σ H s->Heap.MadeExcOf s.heap h' e cls vs->E σ cls none H->X.xe (.ref e) { s with heap:=h' }
def Ay (sp:Sp) (dvs:List V) (E:St->XK) (t:TA):TE:=fun σ H Q=>t σ H fun vs H1=>sp (vs++dvs) H1 Q (E σ)
section
variable {X:Cx}{CX:CXT}{k:Nat}{f C:Addr}{fd:FuncData}{ps:List Str}{sp:Sp}{dvs:List V}{ds:List Value}{E:St->XK}{x m:Str}{p pos apos:Pos}{e o:Expr}{es:List Expr}{ta:TE}{t:TA}
theorem yW {aa:List (Addr×Obj)}{σ:St}{H:Hp}{s:Shared}{Q:VK}{us:List Value}{vs:List V}(F:FnOk X.prog X.w X.K X.mg X.base CX k f fd ps sp) (hr:Room k X.A) (hb:cC X.K fd ps ds) (hd:av dvs ds) (hx:bI CX X E)
  (I:Inv X aa σ H s) (r:av vs us) (h:sp (vs++dvs) H Q (E σ)):wpAny (model X.prog X.w) X.A (call (.ref f) us) (EP X aa σ Q) X.xe s:=by
 have r2:av (vs++dvs) (us++ds):=r.append hd
 have hl:(us++ds).length=ps.length:=by rw[←r2.length];exact F.len _ _ _ _ h
 refine wpAny_call (codeAny_mono (F.run X.A X.stack s H ⟨us,[]⟩ (us++ds) (vs++dvs) Q (E σ) hr I.env0 (hb s us I.kIn hl) r2 h) fun r s' hq=>?_)
 cases r with
 | error e=>exact hx aa σ H s e s' I hq
 | ok fl=>
  cases fl with
  | ret u=>exact I.after hq
  | next=>exact False.elim hq
  | brk=>exact False.elim hq
  | cont=>exact False.elim hq
theorem wM (F:FnOk X.prog X.w X.K X.mg X.base CX k f fd ps sp) (hr:Room k X.A) (hg:Gl X x) (hm:X.mg x=some (.ref f)) (hk:W.keepIn X.K (.ref f)=true) (hb:cC X.K fd ps ds) (hd:av dvs ds) (hx:bI CX X E)
  (ha:PA X (e::es) t) (hdb:(x==("__debug__":Str))=false:=by decide) (he:starEach (e::es) X.env=(false,eval e X.env)::starEach es X.env:=by rfl) (hpl:(backTo pos (starEach es X.env)).any (·.1)=false:=by rfl) :
  PE X (.Call (.Name x p) (e::es) [] pos) (Ay sp dvs E t):=by
 intro aa s σ H Q I h
 refine wpAny_Call_Name_kw (eU I hg hm ?_ hdb)
 refine W.callWith_K (h₀:=X.base) I.ok.mod.kin hk (thn (ha pos aa s σ H _ I h) fun us s1 hh=>ex5 hh fun vs H1 I1 r q=>⟨I1.kIn,?_⟩) he hpl
 exact yW F hr hb hd hx I1 r q
end
theorem Az {X:Cx}{E:St->XK}:bI CX0 X E:=fun _ _ _ _ _ _ _ h=>h.elim
theorem pS {X:Cx}:bI CX0 X (fun _ _ _ _=>False):=Az
theorem pxT {X:Cx}(K:W.Frag) {a b:Expr}{ta tb:TE}{pos:Pos}(ha:PE X a ta) (hb:PE X b tb) (e:X.K=K:=by rfl) (hs:rK b:=by intro _ _;rfl):PE X (.Subscript a b pos) (tOp (Au K) ta tb):=by
 subst e
 exact bT Av ha hb hs
theorem lc {sc:Scope}{y:Str}(h:decide (sc.names.lookup y=some .local ∨sc.names.lookup y=some .cell)=true):Loc sc y:=by
 unfold Loc
 exact of_decide_eq_true h
section
variable {P:Program}{w:World}{K:W.Frag}{mg:Str->Option Value}{base:Heap}{N:List Str}{qual:Str}{scope:Scope}{f:Addr}{cd:Value}{A:Around}{outer:List Env}{s₁:Shared}{H₁:Hp}{E:XK}
theorem wN:bI (CX1 P w) (bw (CX1 P w) P w K mg base N qual scope f cd A outer s₁ H₁ E) (fun _=>E):=by
 intro aa σ H s e s' I hx
 obtain⟨ea,cls,n,H',rfl,ho,hg,un,hok,fl,hcx,q⟩:=hx
 have I':=I.call' (ch:=[]) ho un hok hg (fun b z=>absurd z (by simp))
 obtain⟨T,trc,hT0,hTH⟩:=fl.tr
 have up:∀b,s.heap.get? b=none->s₁.heap.get? b=none:=fun b hb=>by
  cases e1:s₁.heap.get? b with
  | none=>rfl
  | some o=>
   obtain⟨o',e2⟩:=I.base.there b o e1 (by intro z;exact absurd (show b∈([]:List Addr) from z) (by simp))
   rw[hb] at e2
   cases e2
 have hB:∀b∈[ea,T],(W.hideAll s'.heap (frs (bw (CX1 P w) P w K mg base N qual scope f cd A outer s₁ H₁ E).stack++[ea,T])).get? b=none:=fun b hb=>W.hideAll_none _ (List.mem_append_right _ hb)
 obtain⟨a0,tw⟩:=trc.traced (hB T (by simp))
 show wpAny (model P w) (A.deeper (envOfC qual scope s₁.heap.objs.size f cd)) (leaving (envOfC qual scope s₁.heap.objs.size f cd) (.ref ea)) _ _ s'
 refine wpAny_mono (hV (e:=ea) (p:=n=none) (E:=fun _ _=>False) (Q:=fun _ s2=>∃h',s2={ s' with heap:=h' }∧Heap.LeftW (W.hideAll s'.heap (frs (bw (CX1 P w) P w K mg base N qual scope f cd A outer s₁ H₁ E).stack++[ea,T])) (envOfC qual scope s₁.heap.objs.size f cd::outer) ea cls a0 s'.heap h') (hZ _ _)
  (wpAny_leaving_nextW (outer:=outer) (L:=s₁.heap.objs.size) I'.ok.frames (W.funFrames_hide I'.stack fun env he a ha=>List.mem_append_left _ (List.mem_filterMap.mpr ⟨env,he,ha⟩)) rfl tw (fun b o z=>W.of_hideAll _ z) (hB ea (by simp)) fun h' hL=>⟨h',rfl,hL⟩) hcx) (fun _ s2 z=>?_) (fun _ _ z=>z.1.elim)
 obtain⟨⟨h',rfl,hL⟩,c2⟩:=z
 obtain⟨k1,k2,k3,k4⟩:=hL
 exact jp (X:=bw (CX1 P w) P w K mg base N qual scope f cd A outer s₁ H₁ E) (l:=[ea,T]) I' rfl rfl
  (fun b hb=>by
   rcases List.mem_cons.mp hb with z|z
   ·rw[z];exact⟨fl.free,up ea fl.new⟩
   ·rw[List.mem_singleton.mp z];exact⟨hTH,up T hT0⟩)
  fl.free (up ea fl.new) (fun b o z1 z2 e1=>k1 b o (W.hideAll_get _ e1 fun m=>(List.mem_append.mp m).elim z1 z2)) k4 k3 c2 q
theorem tD:oI (bw (CX1 P w) P w K mg base N qual scope f cd A outer s₁ H₁ E) (fun _=>E):=by
 intro aa σ H s h1 e cls vs I hm q
 show wpAny (model P w) (A.deeper (envOfC qual scope s₁.heap.objs.size f cd)) (leaving (envOfC qual scope s₁.heap.objs.size f cd) (.ref e)) _ _ { s with heap:=h1 }
 have hn:H e=none:=by
  cases e1:H e with
  | none=>rfl
  | some o=>
   obtain⟨u,e2⟩:=kI (I.hok e o e1)
   rw[hm.new] at e2
   cases e2
 have h0:s₁.heap.get? e=none:=by
  cases e1:s₁.heap.get? e with
  | none=>rfl
  | some o=>
   obtain⟨o',e2⟩:=I.base.there e o e1 (by intro z;exact absurd (show e∈([]:List Addr) from z) (by simp))
   rw[hm.new] at e2
   cases e2
 have c1:Cx0 e h1:=by
  obtain⟨t,ht,_,_⟩:=hm.there
  exact⟨_,_,ht,rfl,rfl⟩
 refine wpAny_mono (hV (e:=e) (p:=(none:Option Addr)=none) (E:=fun _ _=>False) (Q:=fun _ s2=>∃h' t,s2={ s with heap:=h' }∧Heap.FlyingW (W.hideAll s.heap (frs (bw (CX1 P w) P w K mg base N qual scope f cd A outer s₁ H₁ E).stack++[])) outer e cls (.ref t) h'∧h1.UpToSlots h') (hZ _ _)
  (wpAny_leaves_madeW (base:=W.hideAll s.heap (frs (bw (CX1 P w) P w K mg base N qual scope f cd A outer s₁ H₁ E).stack++[])) (h:=s.heap) (outer:=outer) (L:=s₁.heap.objs.size) (cls:=cls) (args:=vs) I.ok.frames rfl (fun b o z=>W.of_hideAll _ z)
   (W.funFrames_hide I.stack fun env he a ha=>List.mem_append_left _ (List.mem_filterMap.mpr ⟨env,he,ha⟩)) hm fun h' t fl _ _ ups=>⟨h',t,rfl,fl,ups⟩) fun _=>c1) (fun _ s2 z=>?_) (fun _ _ z=>z.1.elim)
 obtain⟨⟨h',t,rfl,fl,ups⟩,c2⟩:=z
 obtain⟨k1,k2,k3,k4⟩:=fl
 exact jp (X:=bw (CX1 P w) P w K mg base N qual scope f cd A outer s₁ H₁ E) (s:=s) (l:=[]) I rfl rfl (fun b z=>absurd z (by simp)) hn h0
  (fun b o z1 z2 e1=>k1 b o (W.hideAll_get _ e1 fun m=>(List.mem_append.mp m).elim z1 z2)) ((Heap.UpToSlots.of_keeps hm.keeps).trans ups) k4 c2 q
end
theorem Fun.okX {P:Program}{w:World}{K:W.Frag}{mg:Str->Option Value}{base:Heap}{x qual:Str}{st:Stmt}{f:Addr}{fd:FuncData}{N ps:List Str}{k:Nat}{sp:Sp}(F:Fun K x qual st f fd) (S:FnScope N ps (am st)) (len:∀vs H Q E,sp vs H Q E->vs.length=ps.length)
  (hbody:∀(X:Cx) (cdv:Value) (A:Around) (outer:List Env) (s:Shared) (H:Hp) (vs:List V) (Q:VK) (E:XK),X=bw (CX1 P w) P w K mg base N qual (am st) f cdv A outer s H E->bI (CX1 P w) X (fun _=>E)->oI X (fun _=>E)->
   Room k X.A->sp vs H Q E->∃t,PSs X (cj st) t∧t { nx:=fun _ H'=>Q .non H',rt:=Q } (fH N vs) H):FnOk P w K mg base (CX1 P w) (k+1) f fd ps sp:=by
 obtain⟨oc,od,kV,doc,pm,an,cdv,ct,osl,rfl,lk,hcd⟩:=F.ex
 refine yb lk hcd S len fun A outer s H vs Q E hr hsp=>?_
 exact hbody _ cdv A outer s H vs Q E rfl wN tD hr hsp
section
variable {X:Cx}
theorem PS.nox {st:Stmt}{t:TS}(h:PS X.nox st t):PS X st t:=fun aa s σ H D I hw=>
 wpAny_mono (h aa s σ H D (I.wish _) hw) (fun _ _ q=>q.unwish) fun _ _ z=>False.elim z
end
abbrev bmV:List Value:=[.type "ValueError",.type "Exception",.type "BaseException",.type "object"]
theorem ye {K:W.Frag}{h:Heap}{C:Addr}{bmB:List Value}{newId:String}(I:K.In h) (q:W.excIn K C bmB newId=true) :
  ∃bm N nm qn bs hdct sn sub ab col dd k0 k1 k2 k3 k5 mN,h.get? C=some (excClassObj nm qn C N bs bm hdct sn sub ab col dd k0 k1 k2 k3 k5 newId)∧h.Ns N mN∧mN "__init__"=none∧OwnTail h bmB bm:=by
 unfold W.excIn at q
 split at q
 case h_2=>cases q
 case h_1 dd cd sl lk=>
  split at q
  case h_2=>cases q
  case h_1 C' bm k0 k1 k2 k3 nid k5 em es=>
   rw[Bool.and_eq_true,Bool.and_eq_true,Bool.and_eq_true,Bool.and_eq_true,Bool.and_eq_true] at q
   obtain⟨⟨⟨⟨⟨q1,q2⟩,q3⟩,q4⟩,q5⟩,q6⟩:=q
   have e1:C'=C:=beq_iff_eq.mp q1
   have e2:nid=newId:=beq_iff_eq.mp q2
   have e3:cd.hasDel=false:=by cases hh:cd.hasDel with
    | false=>rfl
    | true=>rw[hh] at q3;cases q3
   subst e1 e2
   have e4:sl=#[k0,k1,k2,k3,some (.builtin nid),k5]:=by
    cases sl with
    | mk l=>exact congrArg Array.mk es
   cases cd with
   | mk name bases mro ns qualname hasDict slotNames subclasses abstract collection hasDel=>
    simp only at em e3
    subst em e3 e4
    exact⟨bm,ns,name,qualname,bases,hasDict,slotNames,subclasses,abstract,collection,dd,k0,k1,k2,k3,k5,_,I _ _ lk,
     .of_isNs (W.isNs_of_in I q5),W.nsMap_none_of_in I q5 (beq_iff_eq.mp q6),W.tail_of_in I q4⟩
structure OwnX (K:W.Frag) (mg:Str->Option Value) (x:Str) (C:Addr):Prop where
 bound:mg x=some (.ref C)
 ok:W.excIn K C bmV "ValueError.__new__"=true
def AA (C:Addr) (E:St->XK) (t:TA):TS:=fun _ σ H=>t σ H fun vs H1=>vs.length≤sizeLine∧E σ (.ref C) none H1
theorem bp {X:Cx}{E:St->XK}{x:Str}{C:Addr}{np cpos pos:Pos}{e₀:Expr}{rest:List Expr}{t:TA}(hc:X.calm=true) (hg:Gl X x) (O:OwnX X.K X.mg x C) (hr:oI X E) (ha:PA X (e₀::rest) t)
  (hd:(x==("__debug__":Str))=false:=by decide) (he:starEach (e₀::rest) X.env=(false,eval e₀ X.env)::starEach rest X.env:=by rfl) (hpl:(backTo cpos (starEach rest X.env)).any (·.1)=false:=by rfl) :
  PS X (.Raise (some (.Call (.Name x np) (e₀::rest) [] cpos)) none pos) (AA C E t):=by
 intro aa s σ H D I h
 obtain⟨bm,N,nm,qn,bs,hdct,sn,sub,ab,col,dd,k0,k1,k2,k3,k5,mN,hC,hN,hni,T⟩:=ye I.ok.mod.kin O.ok
 refine wpAny_Raise_call_subT (C:=C) (nm:=nm) (q:=qn) (N:=N) (bs:=bs) (bm:=bm) (hdct:=hdct) (sn:=sn) (sub:=sub) (ab:=ab) (col:=col) (dd:=dd) (k0:=k0) (k1:=k1) (k2:=k2) (k3:=k3) (k5:=k5) (mN:=mN)
  PySem.F.excBase_ValueError (T.hasType (by decide +kernel)) (I.ok.hd hc) (by rw[he];show(false||(backTo cpos (starEach rest X.env)).any (·.1))=false;rw[hpl];rfl) hni (eU I hg O.bound ⟨rfl,?_⟩ hd)
 have h2:=ha cpos aa s σ H _ I h
 rw[he] at h2 ⊢
 refine Calls.evalArgs_plain (thn h2 fun us s2 ⟨vs,H2,I2,r,q1,q2⟩=>⟨rfl,by rw[←r.length];exact q1,I2.bk _ _ hC,hN.keeps I2.bk,T.keeps I2.bk,fun h' e hm=>?_⟩)
 exact hr aa σ H2 s2 h' e _ _ I2 hm q2
end L2
namespace L2
open PySem PySem.Spec PyProof.Rows
theorem fS {env:Env}:∀(names:List (Str×NameKind)) (acc:List (Str×Addr)),(∀y∈names,y.2=.free->∃c,env.cells.lookup y.1=some c)->
  ∃cl,(forIn (m:=Sem) names acc fun(y:Str×NameKind) cs=>(do if (y.2==NameKind.free)=true then (do let c ←cellOf env y.1;pure (ForInStep.yield ((y.1,c)::cs))) else pure (ForInStep.yield cs)))=pure cl∧
   (∀y c,cl.lookup y=some c->acc.lookup y=some c∨env.cells.lookup y=some c)∧(∀y∈names,y.2=.free->(cl.lookup y.1).isSome=true)∧∀y,(acc.lookup y).isSome=true->(cl.lookup y).isSome=true
 | [],acc,_=>⟨acc,rfl,fun _ _ e=>.inl e,(fun _ h=>absurd h (by simp)),fun _ e=>e⟩
 | (n,k)::r,acc,h=>by
  by_cases hk:k=.free
  ·subst hk
   obtain⟨c,hc⟩:=h (n,.free) List.mem_cons_self rfl
   obtain⟨cl,e1,e2,e3,e4⟩:=fS r ((n,c)::acc) fun y hy=>h y (List.mem_cons_of_mem _ hy)
   have look:∀y,List.lookup y ((n,c)::acc)=if (y==n)=true then some c else acc.lookup y:=fun y=>by
    rw[List.lookup_cons];cases (y==n) <;> rfl
   refine⟨cl,?_,fun y d e=>?_,fun y hy hf=>?_,fun y e=>?_⟩
   ·rw[List.forIn_cons]
    have hco:cellOf env n=pure c:=by unfold cellOf;rw[hc]
    simp only[beq_self_eq_true,if_true,hco,pure_bind]
    exact e1
   ·rcases e2 y d e with z|z
    ·rw[look] at z
     by_cases hy:(y==n)=true
     ·rw[if_pos hy] at z
      have:y=n:=by simpa using hy
      subst this
      rw[hc];exact .inr z
     ·rw[if_neg hy] at z;exact .inl z
    ·exact .inr z
   ·rcases List.mem_cons.mp hy with z|z
    ·subst z
     exact e4 n (by rw[look,if_pos (by simp)];rfl)
    ·exact e3 y z hf
   ·refine e4 y ?_
    rw[look]
    split
    ·rfl
    ·exact e
  ·obtain⟨cl,e1,e2,e3,e4⟩:=fS r acc fun y hy=>h y (List.mem_cons_of_mem _ hy)
   refine⟨cl,?_,e2,fun y hy hf=>?_,e4⟩
   ·rw[List.forIn_cons]
    have hb:(k==NameKind.free)=false:=by simpa using hk
    simp only[hb,Bool.false_eq_true,if_false,pure_bind]
    exact e1
   ·rcases List.mem_cons.mp hy with z|z
    ·subst z;exact absurd hf hk
    ·exact e3 y z hf
theorem eN {scope:Scope}{env:Env}(h:∀y∈scope.names,y.2=.free->∃c,env.cells.lookup y.1=some c) :
  ∃cl,closureFor scope env=pure cl∧(∀y c,cl.lookup y=some c->env.cells.lookup y=some c)∧∀y∈scope.names,y.2=.free->(cl.lookup y.1).isSome=true:=by
 obtain⟨cl,e1,e2,e3,_⟩:=fS scope.names [] h
 refine⟨cl,?_,fun y c e=>(e2 y c e).elim (fun z=>by cases z) id,e3⟩
 have e:closureFor scope env=((forIn (m:=Sem) scope.names ([]:List (Str×Addr)) fun(y:Str×NameKind) cs=>(do if (y.2==NameKind.free)=true then (do let c ←cellOf env y.1;pure (ForInStep.yield ((y.1,c)::cs))) else pure (ForInStep.yield cs))) >>= pure):=rfl
 rw[e,e1]
 rfl
def cxC (X:Cx) (scope:Scope) (cl:List (Str×Addr)) (x:Str) (C:Addr) (s₂:Shared) (H₂:Hp) (fp:List Addr) (aa:List (Addr×Obj)):Cx where
 prog:=X.prog
 w:=X.w
 K:=X.K
 mg:=X.mg
 base:=X.base
 A:=X.A
 N:=x::X.N
 s₀:=s₂
 H₀:=H₂
 env:=compEnvC scope cl C X.env
 outer:=X.stack
 stack:=X.stack
 ex:=fp
 fn:=fun _=>false
 calm:=X.calm
 pn:=X.pn++aa
 xe:=fun _ _=>False
structure CScope (sc:Scope) (N:List Str) (scope:Scope) (x:Str):Prop where
 kind:scope.kind=.function
 cell:∀y∈scope.names,y.2≠.cell
 free:∀y∈scope.names,y.2=.free->sc.names.lookup y.1=some .cell∨sc.names.lookup y.1=some .free
 names:∀y∈scope.names,y.2=.local ->scope.names.lookup y.1=some .local
 var:scope.names.lookup x=some .local
 fresh:x∉N
 other:∀y∈N,scope.names.lookup y≠some .local
theorem eV {scope:Scope}{env:Env}:∀{names:List (Str×NameKind)}{y:Str}{k:NameKind},
  (names.map fun(n,k)=>if (k==NameKind.free&&env.scope.kind==.function&&env.kindOf n==some .cell) then (n,NameKind.cell) else (n,k)).lookup y=some k->
   ∃k',names.lookup y=some k'∧(k'=k∨(k'=.free∧k=.cell))
 | [],_,_,h=>by simp at h
 | (n,k0)::r,y,k,h=>by
  rw[List.map_cons] at h
  by_cases hy:(y==n)=true
  ·have:y=n:=by simpa using hy
   subst this
   by_cases hc:(k0==NameKind.free&&env.scope.kind==.function&&env.kindOf y==some .cell)=true
   ·simp only[hc,if_true,List.lookup_cons,beq_self_eq_true] at h
    cases h
    rw[Bool.and_eq_true,Bool.and_eq_true] at hc
    exact⟨k0,by simp[List.lookup_cons],.inr ⟨by simpa using hc.1.1,rfl⟩⟩
   ·simp only[hc,Bool.false_eq_true,if_false,List.lookup_cons,beq_self_eq_true] at h
    cases h
    exact⟨k0,by simp[List.lookup_cons],.inl rfl⟩
  ·have hy':(y==n)=false:=by simpa using hy
   have h':(r.map fun(n,k)=>if (k==NameKind.free&&env.scope.kind==.function&&env.kindOf n==some .cell) then (n,NameKind.cell) else (n,k)).lookup y=some k:=by
    by_cases hc:(k0==NameKind.free&&env.scope.kind==.function&&env.kindOf n==some .cell)=true
    ·simp only[hc,if_true,List.lookup_cons,hy'] at h;exact h
    ·simp only[hc,Bool.false_eq_true,if_false,List.lookup_cons,hy'] at h;exact h
   obtain⟨k',e1,e2⟩:=eV (scope:=scope) (env:=env) h'
   exact⟨k',by rw[List.lookup_cons,hy'];exact e1,e2⟩
section
variable {X:Cx}{scope:Scope}{cl:List (Str×Addr)}{x:Str}{C D:Addr}{s₂:Shared}{H₂:Hp}{fp:List Addr}{aa:List (Addr×Obj)}{σ:St}
abbrev aD (its:List Value) (n:Nat):Obj:={ cls:=.type "list",data:=.seq its.toArray n }
theorem gf {h₁:Heap}{t':Nat}{its:List Value}{n:Nat}(I:Inv X aa σ H₂ s₂) (S:CScope X.env.scope X.N scope x) (hfp:∀b∈fp,cW X aa H₂ b) (hfo:∀b∈fp,∃o,s₂.heap.get? b=some o)
  (hcl:∀y c,cl.lookup y=some c->X.env.cells.lookup y=some c)
  (hcf:∀y∈scope.names,y.2=.free->(cl.lookup y.1).isSome=true) (hD:s₂.heap.objs.size≤D) (hC:s₂.heap.objs.size≤C) (hDC:D≠C) (hns:∃m,h₁.Ns C m) (hd:h₁.get? D=some (aD its n))
  (keep:∀b o,s₂.heap.get? b=some o->h₁.get? b=some o) :
  Inv (cxC X scope cl x C s₂ H₂ fp aa) [(D,aD its n)] (none::σ) H₂ { s₂ with heap:=h₁,toks:=t' }:=by
 have lk:∀{y:Str}{k:NameKind},(compEnvC scope cl C X.env).kindOf y=some k->∃k',scope.names.lookup y=some k'∧(k'=k∨(k'=.free∧k=.cell)):=fun {y k} h=>eV (scope:=scope) h
 have isfree:∀{y:Str},((compEnvC scope cl C X.env).kindOf y=some .cell∨(compEnvC scope cl C X.env).kindOf y=some .free)->scope.names.lookup y=some .free:=fun {y} h=>by
  rcases h with h|h
  ·obtain⟨k',e1,e2⟩:=lk h
   rcases e2 with z|z
   ·subst z;exact absurd rfl (S.cell _ (PySem.mem_of_lookup e1))
   ·rw[z.1] at e1;exact e1
  ·obtain⟨k',e1,e2⟩:=lk h
   rcases e2 with z|z
   ·rw[z] at e1;exact e1
   ·exact absurd z.2 (by decide)
 have sz:=I.sz
 have new:∀b,s₂.heap.objs.size≤b->b∉frs X.stack:=fun b hb z=>by
  rcases List.mem_cons.mp (I.stkSub b z) with r|r
  ·exact absurd (Nat.lt_of_lt_of_le I.lt hb) (by rw[r];exact Nat.lt_irrefl _)
  ·exact I.nofs hb r
 have neC:∀b o,s₂.heap.get? b=some o->b≠C:=fun b o e=>Nat.ne_of_lt (Nat.lt_of_lt_of_le (Heap.lt_size e) hC)
 refine⟨⟨I.ok.mod,S.kind,I.ok.glob,I.ok.blt,hC,fun y z c h1 h2=>I.ok.inj y z c (hcl y c h1) (hcl z c h2),fun y hy=>?_,fun y c h=>absurd h (by show ¬(false=true);decide),I.ok.hd,I.ok.frames,.inl rfl,fun b hb=>⟨?_,fun y c h=>?_⟩,I.bs,Nat.le_trans I.ok.bsz sz,fun b o e hb=>?_,fun b hb z=>?_,I.stack,I.stkFree⟩,
  rfl,I.bare,Un.kept keep,?_,fun y c h=>?_,I.hok.fresh hC,fun y c h=>I.freeC y c (hcl y c h),fun p hp=>?_,I.hok.kept keep,?_⟩
 ·have e:=isfree hy
  exact Option.isSome_iff_exists.mp (hcf (y,.free) (PySem.mem_of_lookup e) rfl)
 ·obtain⟨o,e⟩:=hfo b hb
  exact neC b o e
 ·exact(hfp b hb).2.2.2.2.1 y c (hcl y c h)
 ·obtain⟨_,_,_,hx,_⟩:=hfp b hb
  rcases hx with r|r
  ·exact I.ok.noex b o e r
  ·exact absurd (Nat.lt_of_lt_of_le (Heap.lt_size (I.ok.bs b o e).1) r) (Nat.lt_irrefl _)
 ·obtain⟨_,hL,hf,_⟩:=hfp b hb
  rcases List.mem_cons.mp (I.stkSub b z) with r|r
  ·exact hL r
  ·exact hf r
 ·obtain⟨m,hm⟩:=hns
  obtain⟨m',_,hl⟩:=I.loc
  refine⟨m,hm,fun i y v e1 e2 e3=>?_⟩
  cases i with
  | zero=>cases (show some (none:Option V)=some (some v) from e2)
  | succ i=>
   have e1':X.N[i]?=some y:=e1
   have e2':σ[i]?=some (some v):=e2
   have fr:scope.names.lookup y=some .free:=by
    rcases e3 with z|z
    ·obtain⟨k',q1,q2⟩:=lk z
     rcases q2 with q2|q2
     ·rw[q2] at q1;exact absurd q1 (S.other y (List.mem_of_getElem? e1'))
     ·exact absurd q2.2 (by decide)
    ·exact isfree z
   have kd:(compEnvC scope cl C X.env).kindOf y=some .cell∨(compEnvC scope cl C X.env).kindOf y=some .free:=by
    rcases e3 with z|z
    ·obtain⟨k',q1,q2⟩:=lk z
     rw[fr] at q1
     cases q1
     rcases q2 with q2|q2
     ·cases q2
     ·exact absurd q2.2 (by decide)
    ·exact z
   have kx:=S.free (y,.free) (PySem.mem_of_lookup fr) rfl
   obtain⟨u,r,q⟩:=hl i y v e1' e2' (.inr kx)
   refine⟨u,r,.inr ⟨kd,?_⟩⟩
   obtain⟨c,hc⟩:=Option.isSome_iff_exists.mp (hcf (y,.free) (PySem.mem_of_lookup fr) rfl)
   refine⟨c,hc,?_⟩
   rcases q with⟨ql,_⟩|⟨_,c',hc',z⟩
   ·have ql':X.env.scope.names.lookup y=some .local :=ql
    rcases kx with kx|kx <;> (rw[ql'] at kx;cases kx)
   ·have:=hcl y c hc
    rw[hc'] at this
    cases this
    obtain⟨o,ho,hd⟩:=z
    exact⟨o,keep _ _ ho,hd⟩
 ·obtain⟨v,o,ho,hd⟩:=I.cell y c (hcl y c h)
  exact⟨v,o,keep _ _ ho,hd⟩
 ·rcases List.mem_append.mp hp with z|z
  ·obtain⟨e,n0,ne,nf,d⟩:=I.pin p z
   refine⟨keep _ _ e,n0,neC _ _ e,fun q=>?_,d⟩
   rcases List.mem_cons.mp (I.stkSub _ q) with r|r
   ·exact ne r
   ·exact nf r
  ·rw[List.mem_singleton.mp z]
   exact⟨hd,I.hok.fresh hD,hDC,new D hD,fun v q=>nomatch q⟩
 ·show σ.length+1=X.N.length+1
  rw[I.len]
theorem ib {h'':Heap}{s':Shared}{H':Hp}{σ':St}{its:List Value}{n:Nat}{ys:List V}(I:Inv X aa σ H₂ s₂) (hfp:∀b∈fp,cW X aa H₂ b) (hD:s₂.heap.objs.size≤D) (hC:s₂.heap.objs.size≤C)
  (J:Inv (cxC X scope cl x C s₂ H₂ fp aa) [(D,aD its n)] σ' H' s') (hs:Heap.SameBut C s'.heap h'') (r:av ys its) (hz:ys.length≤sizeLine) :
  Inv X aa σ (upd H' D (.lst ys)) { s' with heap:=h'' }∧H' D=none:=by
 obtain⟨eD,nD,neD,_,_⟩:=J.pin (D,aD its n) (List.mem_append_right _ List.mem_cons_self)
 have kp:∀b,b≠C->h''.get? b=s'.heap.get? b:=fun b hb=>hs.2 b hb
 have neC:∀b o,s₂.heap.get? b=some o->b≠C:=fun b o e=>Nat.ne_of_lt (Nat.lt_of_lt_of_le (Heap.lt_size e) hC)
 have neD':∀b o,s₂.heap.get? b=some o->b≠D:=fun b o e=>Nat.ne_of_lt (Nat.lt_of_lt_of_le (Heap.lt_size e) hD)
 have trC:∀b u,H' b=some u->b≠C:=fun b u e z=>by
  have f:H' C=none:=J.free
  rw[z,f] at e;cases e
 have un:=J.base
 refine⟨I.call' (ch:=fp) J.os ⟨fun b o e m hb hx=>?_,fun b o e m hb hx=>?_,fun b o e m hx=>?_,fun b o e hx=>?_,fun b xs e=>?_,fun b o u e=>?_,fun b ps e=>?_⟩ ?_ J.bare (fun b hb=>?_),nD⟩
 ·exact(kp b (neC b o e)).trans (un.keep b o e m hb hx)
 ·obtain⟨sl,q⟩:=un.slot b o e m hb hx
  exact⟨sl,(kp b (neC b o e)).trans q⟩
 ·rw[ap (neD' b o e)];exact un.free b o e m hx
 ·obtain⟨o',q⟩:=un.there b o e hx
  exact⟨o',(kp b (neC b o e)).trans q⟩
 ·have q:=un.tups b xs e
  rw[ap (au q nD)];exact q
 ·have q:=un.frzs b o u e
  rw[ap (au q nD)];exact q
 ·obtain⟨m,q⟩:=un.tbls b ps e
  exact⟨m,by rw[ap (au q nD)];exact q⟩
 ·intro a o e
  by_cases ha:a=D
  ·subst ha
   rw[ag] at e
   cases e
   exact⟨hz,its,n,r,(kp _ neD).trans eD⟩
  ·rw[ap ha] at e
   refine(J.hok a o e).stay (fun b u hb q=>(kp b ?_).trans q) (fun b q=>by rw[ap (au q nD)];exact q) fun b xs q=>by rw[ap (au q nD)];exact q
   rcases hb with z|z
   ·rw[z];exact trC a o e
   ·exact trC b _ z
 ·obtain⟨_,h2,_,h4,h5,h6⟩:=hfp b hb
  exact⟨h4,h2,h5,h6⟩
end
def jq (J:It) (σ:St) (tt:TT) (te:TE) (Q:VK) (H1:Hp):Prop:=∃W:Nat->Nat->List V->Hp->Prop,(∃m,W 0 m [] H1)∧∀i m ys H2,W i m ys H2->
 (J.stop i H2∧ys.length≤sizeLine∧∀p,H2 p=none->Q (.ref p) (upd H2 p (.lst ys)))∨
 (J.go i H2∧ys.length<sizeLine∧∃N:List V->Hp->Prop,(∀zs H',N zs H'->∃m',m' < m∧W (i+1) m' zs H')∧∀x H3,J.yld i H2 x H3->tt (some x::σ) H3 fun b H4=>if b=true then te (some x::σ) H4 fun y H5=>N (ys++[y]) H5 else N ys H4)
def nX (wi:TI) (tt:TT) (te:TE):TE:=fun σ H Q=>wi σ H fun J H1=>jq J σ tt te Q H1
def yf:TT:=fun _ H Q=>Q true H
theorem goT {σ:St}{H:Hp}{Q:Bool->Hp->Prop}(h:Q true H):yf σ H Q:=h
def PTs (Y:Cx) (ifs:List Expr) (t:TT):Prop:=
 ∀(aa:List (Addr×Obj)) (s:Shared) (σ:St) (H:Hp) (Q:Bool->Hp->Prop),Inv Y aa σ H s->t σ H Q->
  wpAny (model Y.prog Y.w) Y.A (forIn ifs true fun c r=>if r=true then do let ok ←isTrue c Y.env (eval c Y.env);pure (ForInStep.yield ok) else pure (ForInStep.yield r)) (TP Y aa σ Q) Y.xe s
theorem cw {Y:Cx}:PTs Y [] yf:=fun aa s σ H Q I h=>wpAny_tests_nil ⟨H,I,h⟩
theorem lN {Y:Cx}{c:Expr}{t:TT}(h:PT Y c t):PTs Y [c] t:=fun aa s σ H Q I q=>wpAny_tests_one (h aa s σ H Q I q)
section
variable {X:Cx}{scope:Scope}{x:Str}{elt iter:Expr}{ifs:List Expr}{px pos:Pos}{wi:TI}{tt:TT}{te:TE}
theorem bU {α:Type}{M:Model}{A:Around}{t:Sem α}{Q:α->Shared->Prop}{E:Value->Shared->Prop}{s:Shared}(h:wpAny M A t Q (fun _ _=>False) s):wpAny M A t Q E s:=wpAny_mono h (fun _ _ z=>z) fun _ _ z=>z.elim
theorem eB (hc:X.calm=true) (S:CScope X.env.scope X.N scope x) (hi:PI X (.Name x px) iter wi)
  (ht:∀(cl:List (Str×Addr)) (C:Addr) (s₂:Shared) (H₂:Hp) (fp:List Addr) (aa:List (Addr×Obj)),PTs (cxC X scope cl x C s₂ H₂ fp aa) ifs tt)
  (he:∀(cl:List (Str×Addr)) (C:Addr) (s₂:Shared) (H₂:Hp) (fp:List Addr) (aa:List (Addr×Obj)),PE (cxC X scope cl x C s₂ H₂ fp aa) elt te)
  (hN:X.N.Nodup) (hs:∀v,foldedSetIterable iter X.env v=pure v:=by intro _;rfl):PE X (.ListComp elt [⟨.Name x px,iter,ifs,0⟩] scope pos) (nX wi tt te):=by
 intro aa s σ H Q I h
 obtain⟨cl,hcl0,hcl1,hcl2⟩:=eN (scope:=scope) (env:=X.env) (fun y hy hf=>I.ok.has y.1 (S.free y hy hf))
 rw[eval_ListComp]
 refine wpAny_comprehension_free (use:=none) (E:=X.xe) rfl hs hcl0 S.kind S.names (thn (hi aa s σ H _ I h) fun xv s1 h1=>thn h1 fun itv s2 h2=>?_)
 obtain⟨it,fp,tn,J,H2,e,I2,T,st2,f2,W,⟨m0,w0⟩,turn⟩:=h2
 subst e
 refine wpAny_newObj_type (wpAny_newFunctionEnv S.cell (by intro y hy;cases hy) (fun h₁ hns hsb=>?_) S.kind)
 dsimp only at hns hsb ⊢
 generalize hP:s2.heap.push { cls:=.type "list",dict:=none,data:=.seq ([]:List Value).toArray }=P2 at hns hsb ⊢
 have hC:P2.objs.size=s2.heap.objs.size+1:=by rw[←hP,Heap.size_push]
 have hDC:s2.heap.objs.size≠P2.objs.size:=by rw[hC];exact Nat.ne_of_lt (Nat.lt_succ_self _)
 have hCle:s2.heap.objs.size≤P2.objs.size:=by rw[hC];exact Nat.le_succ _
 have old:∀b o,s2.heap.get? b=some o->h₁.get? b=some o:=fun b o e=>by
  have hb:=Heap.lt_size e
  exact hsb.extBut b o (by rw[hC];exact Nat.ne_of_lt (Nat.lt_succ_of_lt hb)) (Heap.get?_push_of_some _ (hP▸Heap.get?_push_of_some _ e))
 have hd:h₁.get? s2.heap.objs.size=some (aD [] 0):=hsb.extBut _ _ hDC (Heap.get?_push_of_some _ (hP▸Heap.get?_push_size _ rfl))
 have fo:∀b∈fp,∃o,s2.heap.get? b=some o:=fun b hb=>by
  obtain⟨o,e,_⟩:=T.obj _ _ st2 b hb
  exact⟨o,e⟩
 have neD:∀b∈fp,b≠s2.heap.objs.size:=fun b hb=>by
  obtain⟨o,e⟩:=fo b hb
  exact Nat.ne_of_lt (Heap.lt_size e)
 have JY:Inv (cxC X scope cl x P2.objs.size s2 H2 fp aa) [(s2.heap.objs.size,aD [] 0)] (none::σ) H2 { s2 with heap:=h₁,toks:=s2.toks+([]:List (Str×Value)).length }:=
  gf I2 S f2 fo hcl1 hcl2 (Nat.le_refl _) hCle hDC ⟨_,hns⟩ hd old
 have stat:∀{H':Hp}{its:List Value}{n:Nat},(∀b∈fp,H' b=none)->∀b∈fp,cW (cxC X scope cl x P2.objs.size s2 H2 fp aa) [(s2.heap.objs.size,aD its n)] H' b:=fun {H' its n} hn b hb=>by
  obtain⟨_,g1,g2,g3,g4,g5⟩:=f2 b hb
  obtain⟨o,e⟩:=fo b hb
  refine⟨hn b hb,?_,fun z=>?_,.inl hb,fun y c q=>g4 y c (hcl1 y c q),fun p hp=>?_⟩
  ·show b≠P2.objs.size
   exact Nat.ne_of_lt (Nat.lt_of_lt_of_le (Heap.lt_size e) hCle)
  ·rcases List.mem_cons.mp (I2.stkSub b z) with r|r
   ·exact g1 r
   ·exact g2 r
  ·rcases List.mem_append.mp hp with z|z
   ·exact g5 p z
   ·rw[List.mem_singleton.mp z];exact fun q=>neD b hb q.symm
 have nodup:(cxC X scope cl x P2.objs.size s2 H2 fp aa).N.Nodup:=List.nodup_cons.mpr ⟨S.fresh,hN⟩
 have loc:Loc (cxC X scope cl x P2.objs.size s2 H2 fp aa).env.scope x:=.inl (lookup_relabel_local S.var)
 have loop:∀s4:Shared,s4={ s2 with heap:=h₁,toks:=s2.toks+([]:List (Str×Value)).length }->
   codeAny (model X.prog X.w) X.A (.compLoop (.ListComp elt [⟨.Name x px,iter,ifs,0⟩] scope pos) 0 (.ref it) (.ref s2.heap.objs.size) (compEnvC scope cl P2.objs.size X.env))
    (compPost (model X.prog X.w) X.A X.xe none (EP X aa σ Q) (.ref s2.heap.objs.size) P2.objs.size) s4:=by
  rintro s4 rfl
  refine codeAny_loop rfl (fun n s'=>∃i ys its c H' v0,Inv (cxC X scope cl x P2.objs.size s2 H2 fp aa) [(s2.heap.objs.size,aD its c)] (v0::σ) H' s'∧tn i s'.heap∧(∀b∈fp,H' b=none)∧av ys its∧W i n ys H') ?_ m0
   ⟨0,[],[],0,H2,none,JY,T.keep _ _ _ st2 (fun b _ o e=>old b o e),fun b hb=>(f2 b hb).1,.nil,w0⟩
  rintro n s3 ⟨i,ys,its,c,H3,v0,I3,st3,fr3,rv,w3⟩
  show wpAny _ _ ((compTurn (.ListComp elt [⟨.Name x px,iter,ifs,0⟩] scope pos) 0 (.ref it) (.ref s2.heap.objs.size) (compEnvC scope cl P2.objs.size X.env)).onRaise (fun z=>do noteFrame z (compEnvC scope cl P2.objs.size X.env);theTreesLotGoes z)) _ _ s3
  refine wpAny_noted ?_
  rw[compTurn_list]
  rcases turn i n ys H3 w3 with⟨stop,hz,qn⟩|⟨go,hz,NN,hNN,step⟩
  ·refine wpAny_bind (wpAny_standAt (wpAny_bind (thn (T.done (cxC X scope cl x P2.objs.size s2 H2 fp aa) rfl rfl rfl hc i _ s3 _ H3 _ I3 (stat fr3) st3 stop) fun r s5 hh9=>?_)))
   obtain⟨hr,I5⟩:=hh9
   subst hr
   refine wpAny_pure ?_
   obtain⟨mC,hmC,_⟩:=I5.loc
   refine⟨mC,hmC,fun h'' hs''=>?_⟩
   obtain⟨I6,nD⟩:=ib I2 f2 (Nat.le_refl _) hCle I5 hs'' rv hz
   exact⟨.ref s2.heap.objs.size,_,I6,rfl,qn _ nD⟩
  ·refine wpAny_bind (wpAny_standAt (wpAny_bind (thn (T.item (cxC X scope cl x P2.objs.size s2 H2 fp aa) rfl rfl rfl hc i _ s3 _ H3 _ I3 (stat fr3) st3 go) fun r s5 hh9=>?_)))
   obtain⟨u,hr,h5⟩:=hh9
   subst hr
   refine wpAny_bind (thn h5 fun _ s6 hh9=>?_)
   obtain⟨xv,H6,I6,r6,y6,st6,fr6⟩:=hh9
   have I6':=I6.pinned (stat fr6) (T.obj _ _ st6)
   refine wpAny_bind (wpAny_assign_Name (dY (i:=0) I6' nodup rfl loc r6 (fun s7 I7=>?_) (.inr (lookup_relabel_local S.var))))
   have q7:=step xv H6 y6
   refine wpAny_bind (bU (thn (ht cl P2.objs.size s2 H2 fp aa _ s7 _ H6 _ I7 q7) fun ok s8 hh9=>?_))
   obtain⟨H8,I8,q8⟩:=hh9
   have back:∀{H9:Hp}{s9:Shared},Inv (cxC X scope cl x P2.objs.size s2 H2 fp aa) ([(s2.heap.objs.size,aD its c)]++eI fp s6.heap) (some xv::σ) H9 s9->tn (i+1) s9.heap∧∀b∈fp,H9 b=none:=fun {H9 s9} I9=>by
    refine⟨T.keep _ _ _ st6 fun b hb o e=>(I9.pin (b,o) (List.mem_append_right _ (List.mem_append_right _ (bE hb e)))).1,fun b hb=>?_⟩
    obtain⟨o,e,d⟩:=T.obj _ _ st6 b hb
    exact(I9.pin (b,o) (List.mem_append_right _ (List.mem_append_right _ (bE hb e)))).2.1
   cases ok with
   | false=>
    obtain⟨m',hm,w8⟩:=hNN ys H8 q8
    obtain⟨t8,fr8⟩:=back I8
    exact wpAny_pure ⟨rfl,m',hm,i+1,ys,its,c,H8,_,I8.unpinned,t8,fr8,rv,w8⟩
   | true=>
    refine wpAny_bind (wpAny_bind (bU (thn (he cl P2.objs.size s2 H2 fp aa _ s8 _ H8 _ I8 q8) fun yv s9 hh=>ex5 hh fun y H9 I9 r9 q9=>?_)))
    obtain⟨m',hm,w9⟩:=hNN _ _ q9
    obtain⟨t9,fr9⟩:=back I9
    have I9':=I9.unpinned
    obtain⟨eD,nD,neL,nf,_⟩:=I9'.pin (s2.heap.objs.size,aD its c) (List.mem_append_right _ List.mem_cons_self)
    refine wpAny_bind (wpAny_list_append_plain (items:=its.toArray) ⟨c,eD⟩ (fun h10 hp10 hs10=>?_) (by rw[List.size_toArray,←rv.length];exact Nat.le_of_lt hz))
    obtain⟨c',e10⟩:=hp10
    have e10':h10.get? s2.heap.objs.size=some (aD (its++[yv]) c'):=by rw[e10];simp
    have I10:Inv (cxC X scope cl x P2.objs.size s2 H2 fp aa) [] (some xv::σ) H9 { s9 with heap:=h10 }:=by
     have I9e:Inv (cxC X scope cl x P2.objs.size s2 H2 fp aa) [] (some xv::σ) H9 s9:=I9'.pins_of fun p hp=>absurd hp (by simp)
     refine I9e.turned (t':=s9.toks) (it:=s2.heap.objs.size) (fun b o hb q=>(hs10.2 b hb).trans q) nD neL (.inr (Nat.le_refl _)) (fun y cc q=>?_) fun p hp=>?_
     ·obtain⟨v,z⟩:=I2.cell y cc (hcl1 y cc q)
      exact Nat.ne_of_lt z.lt
     ·have hp':p∈X.pn++aa:=by
       have z:p∈(X.pn++aa)++[]:=hp
       simpa using z
      exact Nat.ne_of_lt (Heap.lt_size (I2.pin p hp').1)
    have I11:Inv (cxC X scope cl x P2.objs.size s2 H2 fp aa) [(s2.heap.objs.size,aD (its++[yv]) c')] (some xv::σ) H9 { s9 with heap:=h10 }:=
     I10.pins_of fun p hp=>by rw[List.mem_singleton.mp hp];exact⟨e10',nD,neL,nf,fun v q=>nomatch q⟩
    refine wpAny_pure (wpAny_pure ⟨rfl,m',hm,i+1,ys++[y],its++[yv],c',H9,_,I11,?_,fr9,rv.append (.cons r9 .nil),w9⟩)
    exact T.keep _ _ _ t9 fun b hb o q=>(hs10.2 b (neD b hb)).trans q
 exact codeAny_compStart_list (loop _ rfl) (T.self X.A 0 _ _ _ (T.keep _ _ _ st2 (fun b _ o e=>old b o e)) (loop _ rfl))
end
section
variable {K:W.Frag}{a:Addr}{xs:List V}{tt:TT}{te:TE}{σ:St}{H:Hp}{Q:VK}
theorem oJ (Pv:Nat->List V->Hp->Prop) (h0:Pv 0 [] H) (hl:∀i ys H,i≤xs.length->Pv i ys H->SqT K H a xs∧ys.length≤i) (hz:xs.length≤sizeLine)
  (hs:∀i x ys H,xs[i]?=some x->Pv i ys H->tt (some x::σ) H fun b H4=>if b=true then te (some x::σ) H4 fun y H5=>Pv (i+1) (ys++[y]) H5 else Pv (i+1) ys H4)
  (hd:∀ys H p,Pv xs.length ys H->H p=none->Q (.ref p) (upd H p (.lst ys))):jq (Itt K a) σ tt te Q H:=by
 refine⟨fun i m ys H=>m=xs.length-i∧i≤xs.length∧Pv i ys H,⟨xs.length,by simp,Nat.zero_le _,h0⟩,?_⟩
 rintro i m ys H2 ⟨rfl,hi,p⟩
 obtain⟨q,hn⟩:=hl i ys H2 hi p
 by_cases hlt:i<xs.length
 ·refine .inr ⟨⟨xs,xs[i],q,by simp[hlt]⟩,by lia,Pv (i+1),fun zs H' p'=>⟨xs.length-(i+1),by lia,rfl,hlt,p'⟩,fun x H3 y=>?_⟩
  obtain⟨e,y⟩:=y
  subst e
  exact hs i x ys _ (y xs q) p
 ·have e:i=xs.length:=by lia
  subst e
  exact .inl ⟨⟨xs,q,Nat.le_refl _⟩,by lia,fun b hb=>hd ys H2 b p hb⟩
theorem eW (Pv:Nat->List V->Hp->Prop) (h0:Pv 0 [] H) (hl:∀i ys H,i≤xs.length->Pv i ys H->SqL K H a xs∧ys.length≤i) (hz:xs.length≤sizeLine)
  (hs:∀i x ys H,xs[i]?=some x->Pv i ys H->tt (some x::σ) H fun b H4=>if b=true then te (some x::σ) H4 fun y H5=>Pv (i+1) (ys++[y]) H5 else Pv (i+1) ys H4)
  (hd:∀ys H p,Pv xs.length ys H->H p=none->Q (.ref p) (upd H p (.lst ys))):jq (Itl K a) σ tt te Q H:=by
 refine⟨fun i m ys H=>m=xs.length-i∧i≤xs.length∧Pv i ys H,⟨xs.length,by simp,Nat.zero_le _,h0⟩,?_⟩
 rintro i m ys H2 ⟨rfl,hi,p⟩
 obtain⟨q,hn⟩:=hl i ys H2 hi p
 by_cases hlt:i<xs.length
 ·refine .inr ⟨⟨xs,xs[i],q,by simp[hlt]⟩,by lia,Pv (i+1),fun zs H' p'=>⟨xs.length-(i+1),by lia,rfl,hlt,p'⟩,fun x H3 y=>?_⟩
  obtain⟨e,y⟩:=y
  subst e
  exact hs i x ys _ (y xs q) p
 ·have e:i=xs.length:=by lia
  subst e
  exact .inl ⟨⟨xs,q,Nat.le_refl _⟩,by lia,fun b hb=>hd ys H2 b p hb⟩
theorem oK {lo:Int}{n:Nat}(Pv:Nat->List V->Hp->Prop) (h0:Pv 0 [] H) (hl:∀i ys H,i≤n->Pv i ys H->ys.length≤i) (hz:n≤sizeLine)
  (hs:∀i ys H,i<n->Pv i ys H->tt (some (.int (lo+i))::σ) H fun b H4=>if b=true then te (some (.int (lo+i))::σ) H4 fun y H5=>Pv (i+1) (ys++[y]) H5 else Pv (i+1) ys H4)
  (hd:∀ys H p,Pv n ys H->H p=none->Q (.ref p) (upd H p (.lst ys))):jq (Itr lo n) σ tt te Q H:=by
 refine⟨fun i m ys H=>m=n-i∧i≤n∧Pv i ys H,⟨n,by simp,Nat.zero_le _,h0⟩,?_⟩
 rintro i m ys H2 ⟨rfl,hi,p⟩
 have hn:=hl i ys H2 hi p
 by_cases hlt:i<n
 ·refine .inr ⟨hlt,by lia,Pv (i+1),fun zs H' p'=>⟨n-(i+1),by lia,rfl,hlt,p'⟩,fun x H3 y=>?_⟩
  obtain⟨e,y⟩:=y
  subst e y
  exact hs i ys _ hlt p
 ·have e:i=n:=by lia
  subst e
  exact .inl ⟨Nat.le_refl _,by lia,fun b hb=>hd ys H2 b p hb⟩
end
end L2
namespace L2
open PySem PySem.Spec PyProof.Rows
def ig (lo:Int) (n:Nat):List V:=(List.range n).map fun(i:Nat)=>V.int (lo+(i:Int))
theorem gy (lo:Int) (n:Nat):(ig lo n).length=n:=by simp[ig]
theorem jS {xs:List V}{us:List Value}(hl:xs.length=us.length) (h:∀(i:Nat) x u,xs[i]?=some x->us[i]?=some u->az x u):av xs us:=by
 induction xs generalizing us with
 | nil=>cases us with
  | nil=>exact .nil
  | cons _ _=>simp at hl
 | cons x xs ih=>cases us with
  | nil=>simp at hl
  | cons u us=>exact .cons (h 0 x u rfl rfl) (ih (by simpa using hl) fun i y v h1 h2=>h (i+1) y v (by simpa using h1) (by simpa using h2))
section
variable {X:Cx}
theorem mG:cm X (.type "range") (fun xs H Q=>∃j,xs=[.int j]∧∀p,H p=none->Q (.ref p) (upd H p (.rng 0 j))):=by
 intro aa s σ H xs us Q I r h
 obtain⟨j,rfl,q⟩:=h
 obtain⟨u,rfl,ru⟩:=dB r
 obtain⟨t,rfl⟩:=ru
 refine call_range_1 ⟨.ref s.heap.objs.size,_,I.laid (fun b o e=>Heap.get?_push_of_some _ e) (Nat.le_refl _) ?_,rfl,q _ (I.hok.fresh (Nat.le_refl _))⟩
 exact⟨_,_,_,Heap.get?_push_size _ rfl⟩
theorem iK (hc:X.calm=true):cm X (.type "list") (fun xs H Q=>∃p lo hi,xs=[.ref p]∧H p=some (.rng lo hi)∧-(2 ^ 62)≤lo∧lo<2 ^ 62∧-(2 ^ 62)≤hi∧hi<2 ^ 62∧(hi-lo).toNat≤2 ^ 24∧
  ∀l,H l=none->Q (.ref l) (upd H l (.lst (ig lo (hi-lo).toNat)))):=by
 intro aa s σ H xs us Q I r h
 obtain⟨p,lo,hi,rfl,hp,h1,h2,h3,h4,h5,q⟩:=h
 obtain⟨u,rfl,ru⟩:=dB r
 cases ru
 obtain⟨t,u,v,e⟩:=I.hok p _ hp
 refine call_list_range (I.ok.hd hc) e (small_one h1 h2 h3 h4) (rangeSize_nat lo hi) h5 fun h' tk acc' c' hk hS hacc=>?_
 refine⟨.ref s.heap.objs.size,_,I.laid (o:=.lst (ig lo (hi-lo).toNat)) hk (Nat.le_refl _) ?_,rfl,q _ (I.hok.fresh (Nat.le_refl _))⟩
 refine⟨by rw[gy];exact h5,acc'.toList,c',jS (by rw[gy,Array.length_toList,hacc.1]) fun i x u e1 e2=>?_,by simpa using hS⟩
 have e2':acc'[i]?=some u:=by simpa using e2
 obtain⟨t',rfl⟩:=hacc.2 i u e2'
 have hi':i<(hi-lo).toNat:=by
  have:=(List.getElem?_eq_some_iff.mp e1).1
  rw[gy] at this
  exact this
 have:x=V.int (lo+(i:Int)):=by
  simp[ig,hi'] at e1
  exact e1.symm
 subst this
 exact⟨t',by rw[Int.mul_one]⟩
def gz (xs ys:List V):Bool:=xs.length==ys.length&&(xs.zip ys).all fun p=>eqV p.1 p.2
theorem iV (ns ms:List Int):gz (ns.map V.int) (ms.map V.int)=decide (ns=ms):=by
 unfold gz
 induction ns generalizing ms with
 | nil=>cases ms with
  | nil=>rfl
  | cons m ms=>simp
 | cons n ns ih=>cases ms with
  | nil=>simp
  | cons m ms=>
   have:=ih ms
   simp only[List.length_map,List.map_cons,List.length_cons,List.zip_cons_cons,List.all_cons] at this ⊢
   have e:(ns.length+1==ms.length+1)=(ns.length==ms.length):=by
    rw[Bool.eq_iff_iff];simp
   rw[e]
   have e2:eqV (V.int n) (V.int m)=(n==m):=rfl
   rw[e2]
   by_cases hh:n=m
   ·subst hh
    simp only[beq_self_eq_true,Bool.true_and]
    rw[this,Bool.eq_iff_iff];simp
   ·have:(n==m)=false:=by simpa using hh
    rw[this]
    simp[hh]
theorem uU {e:Nat->Bool}:∀(xs ys:List V) (k:Nat),xs.length=ys.length->(∀(i:Nat) x y,xs[i]?=some x->ys[i]?=some y->e (k+i)=eqV x y)->((List.range' k xs.length).all e)=(xs.zip ys).all fun p=>eqV p.1 p.2
 | [],ys,k,_,_=>by simp
 | x::xs,[],k,h,_=>by simp at h
 | x::xs,y::ys,k,h,he=>by
  have ih:=uU xs ys (k+1) (by simpa using h) fun i x' y' h1 h2=>by
   have:=he (i+1) x' y' (by simpa using h1) (by simpa using h2)
   rw[show k+1+i=k+(i+1) by lia]
   exact this
  rw[List.length_cons,List.range'_succ,List.all_cons,List.zip_cons_cons,List.all_cons,ih]
  have:=he 0 x y rfl rfl
  rw[Nat.add_zero] at this
  rw[this]
theorem wO {e:Nat->Bool}{xs ys:List V}{n:Nat}(hn:n=xs.length) (hl:xs.length=ys.length) (he:∀(i:Nat) x y,xs[i]?=some x->ys[i]?=some y->e i=eqV x y):(List.range n).all e=(xs.zip ys).all fun p=>eqV p.1 p.2:=by
 subst hn
 rw[List.range_eq_range']
 exact uU xs ys 0 hl fun i x y h1 h2=>by rw[Nat.zero_add];exact he i x y h1 h2
def jr (xs ys:List V) (j:Nat):Bool:=match xs[j]?,ys[j]? with
 | some x,some y=>eqV x y
 | _,_=>false
theorem tE {A:Around}{s:Shared}{xs ys:List V}{us vs:List Value}(r1:av xs us) (r2:av ys vs) (f1:xs.all bZ=true) (f2:ys.all bZ=true) :
  ∀j (h1:j<us.toArray.size) (h2:j<vs.toArray.size),SeqAt.EqAt A s us.toArray[j] vs.toArray[j] (jr xs ys j):=by
 intro j h1 h2
 have l1:=r1.length
 have l2:=r2.length
 have h1':j<us.length:=by simpa using h1
 have h2':j<vs.length:=by simpa using h2
 obtain⟨u,e1,q1⟩:=r1.get (i:=j) (x:=xs[j]'(by lia)) (by simp)
 obtain⟨v,e2,q2⟩:=r2.get (i:=j) (x:=ys[j]'(by lia)) (by simp)
 have e1':us.toArray[j]=u:=by
  have:=(List.getElem?_eq_some_iff.mp e1).2
  simpa using this
 have e2':vs.toArray[j]=v:=by
  have:=(List.getElem?_eq_some_iff.mp e2).2
  simpa using this
 have e3:jr xs ys j=eqV (xs[j]'(by lia)) (ys[j]'(by lia)):=by
  unfold jr
  rw[List.getElem?_eq_getElem (by lia),List.getElem?_eq_getElem (by lia)]
 rw[e1',e2',e3]
 exact uQ q1 q2 (List.all_eq_true.mp f1 _ (List.getElem_mem _)) (List.all_eq_true.mp f2 _ (List.getElem_mem _))
theorem uV {xs ys:List V}{n:Nat}(hn:n=xs.length) (hl:xs.length=ys.length):(List.range n).all (jr xs ys)=gz xs ys:=by
 unfold gz
 rw[wO hn hl fun i x y h1 h2=>by unfold jr;rw[h1,h2]]
 simp[hl]
theorem yX {xs ys:List V}(h:xs.length≠ys.length):gz xs ys=false:=by
 unfold gz
 have:(xs.length==ys.length)=false:=by simpa using h
 rw[this,Bool.false_and]
def EK (K:W.Frag) (neg:Bool):R2:=fun x y H Q=>∃a b xs ys,x=.ref a∧y=.ref b∧SqL K H a xs∧SqL K H b ys∧xs.all bZ=true∧ys.all bZ=true∧Q (.bl (if neg then !gz xs ys else gz xs ys)) H
theorem oM (hu:X.A.units<cLine):OpR X (compareOp .NotEq) (EK X.K true):=by
 intro aa s σ H x y v u Q I rx ry h
 obtain⟨a,b,xs,ys,rfl,rfl,ha,hb,f1,f2,q⟩:=h
 cases rx
 cases ry
 obtain⟨its,r1,p1,_⟩:=I.list ha
 obtain⟨its2,r2,p2,_⟩:=I.list hb
 have l1:=r1.length
 have l2:=r2.length
 by_cases hl:xs.length=ys.length
 ·refine SeqAt.RcNeAt.lists (e:=jr xs ys) p1.isList p2.isList (by simp;lia) hu (tE r1 r2 f1 f2) _ _ _ _ ⟨.bl (!gz xs ys),H,I,?_,q⟩
  show _=Value.bool _
  rw[uV (by simp;lia) hl]
 ·refine SeqAt.RcNeAt.lists_lengths p1.isList p2.isList (by simp;lia) hu _ _ _ _ ⟨.bl (!gz xs ys),H,I,?_,q⟩
  show _=Value.bool _
  rw[yX hl]
  rfl
theorem uW {x:V}:∀{xs:List V}{us:List Value},av xs us->xs.all bZ=true->us.countP (eqU x)=xs.countP fun y=>eqV y x
 | _,_,.nil,_=>rfl
 | y::xs,u::us,.cons r t,f=>by
  rw[List.all_cons,Bool.and_eq_true] at f
  rw[List.countP_cons,List.countP_cons,kE r f.1,uW t f.2]
def AB (K:W.Frag):V->List V->Hp->VK->Prop:=fun o vs H Q=>∃p xs x,o=.ref p∧vs=[x]∧SqL K H p xs∧bZ x=true∧xs.all bZ=true∧Q (.int (xs.countP fun y=>eqV y x)) H
theorem wP:MtM X "list.count" (AB X.K):=by
 intro aa s σ H o vs v us Q I ro rv h
 obtain⟨p,xs,x,rfl,rfl,hp,fx,fs,q⟩:=h
 cases ro
 obtain⟨u,rfl,ru⟩:=rv.one
 obtain⟨its,r,pl,hz⟩:=I.list hp
 obtain⟨⟨cls,dd,data,sl⟩,ho,hc,n,hd⟩:=pl.isList
 simp only at hc hd
 subst hc hd
 refine call_meets PySem.F.slot_list_count ⟨_,ho,rfl⟩ PySem.F.entry_list_count (PySem.F.args_list_count_2 _ _) (SeqAt.list_countAt p its.toArray n dd sl u (eqU x)) ⟨ho,fun y hy=>fP ru fx r fs y (by simpa using hy),?_⟩
 refine⟨.int (xs.countP fun y=>eqV y x),H,I.tok _,⟨s.toks,?_⟩,q⟩
 rw[show its.toArray.toList=its from rfl,uW r fs]
def AC (K:W.Frag):V->List V->Hp->VK->Prop:=fun o vs H Q=>∃p xs x j,o=.ref p∧vs=[x]∧SqL K H p xs∧bZ x=true∧xs.all bZ=true∧(∃y,xs[j]?=some y∧eqV y x=true)∧(∀(i:Nat) y,i<j->xs[i]?=some y->eqV y x=false)∧Q (.int (j:Int)) H
theorem wQ:MtM X "list.index" (AC X.K):=by
 intro aa s σ H o vs v us Q I ro rv h
 obtain⟨p,xs,x,j,rfl,rfl,hp,fx,fs,⟨y,hy,hit⟩,hno,q⟩:=h
 cases ro
 obtain⟨u,rfl,ru⟩:=rv.one
 obtain⟨its,r,pl,hz⟩:=I.list hp
 obtain⟨⟨cls,dd,data,sl⟩,ho,hc,n,hd⟩:=pl.isList
 simp only at hc hd
 subst hc hd
 have hl:=r.length
 have hj:j<xs.length:=(List.getElem?_eq_some_iff.mp hy).1
 have hjs:j<its.toArray.size:=by simp;lia
 have at_:∀(i:Nat) (hi:i<its.toArray.size) (z:V),xs[i]?=some z->eqU x its.toArray[i]=eqV z x:=fun i hi z hz=>by
  obtain⟨w,e1,e2⟩:=r.get hz
  have:its.toArray[i]=w:=by
   have:=(List.getElem?_eq_some_iff.mp e1).2
   simpa using this
  rw[this]
  exact kE e2 (List.all_eq_true.mp fs _ (List.mem_of_getElem? hz))
 refine call_meets PySem.F.slot_list_index ⟨_,ho,rfl⟩ PySem.F.entry_list_index (PySem.F.args_list_index_2 _ _)
  (SeqAt.list_indexAt p its.toArray n dd sl u (eqU x) j hjs (by have:=hz;rw[sizeLine_eq] at this;lia) (by rw[at_ j hjs y hy];exact hit) fun m hm hlt=>?_) ⟨ho,fun z hz=>fP ru fx r fs z (by simpa using hz),?_⟩
 ·have hm':m<xs.length:=by lia
  rw[at_ m hm _ (List.getElem?_eq_getElem hm')]
  exact hno m _ hlt (List.getElem?_eq_getElem hm')
 ·exact⟨.int (j:Int),H,I.tok _,⟨s.toks,rfl⟩,q⟩
end
end L2
namespace L2
open PySem PySem.Spec PyProof.Rows
section
variable {X:Cx}
theorem tF {aa:List (Addr×Obj)}{σ:St}{H:Hp}{s:Shared}{o:Obj}{h':Heap}{tk:Nat}(I:Inv X aa σ H s)
  (k:∀b u,b∉[s.heap.objs.size]->(s.heap.push o).get? b=some u->h'.get? b=some u):Inv X aa σ H { s with heap:=h',toks:=tk }:=by
 have I1:Inv X aa σ H { s with heap:=s.heap.push o }:=I.kept (t':=s.toks) fun b u e=>Heap.get?_push_of_some _ e
 obtain⟨f0,f1,_,f3,f4,f5⟩:=I.fpOk (b:=s.heap.objs.size) (Nat.le_refl _) (I.hok.fresh (Nat.le_refl _))
 have z:=Inv.turned (s:={ s with heap:=s.heap.push o }) (h':=h') (t':=tk) (it:=s.heap.objs.size) I1 (fun b u hb e=>k b u (by simpa using hb) e) f0 f1 f3 f4 f5
 exact z
theorem im (hc:X.calm=true):cm X (.builtin "all") (fun xs H Q=>∃(p:Addr) (bs:List Bool),xs=[.ref p]∧SqL X.K H p (bs.map V.bl)∧Q (.bl (bs.all id)) H):=by
 intro aa s σ H xs us Q I r h
 obtain⟨p,bs,rfl,hp,q⟩:=h
 obtain⟨u,rfl,ru⟩:=dB r
 cases ru
 obtain⟨its,rv,pl,hz⟩:=I.list hp
 have hl:=rv.length
 rw[List.length_map] at hl
 have hne:p≠s.heap.objs.size:=by
  obtain⟨o,ho,_⟩:=pl.isList
  exact Nat.ne_of_lt (Heap.lt_size ho)
 have tr:TruthOf X.prog X.w X.A.in1 (fun i v=>its.toArray[i]?=some v) (fun i=>(bs[i]?).getD false):=fun i v s' Q' E' hP hQ=>by
  have e:its[i]?=some v:=by simpa using hP
  have hi:i<bs.length:=by have:=(List.getElem?_eq_some_iff.mp e).1;lia
  obtain⟨w,e1,e2⟩:=rv.get (i:=i) (x:=V.bl bs[i]) (by simp[hi])
  rw[e] at e1
  cases e1
  cases e2
  refine wpAny_truthy_bool ?_
  have hQ2:Q' ((bs[i]?).getD false) s':=hQ
  rw[List.getElem?_eq_getElem hi] at hQ2
  exact hQ2
 refine call_all_walk (wpAny_pyIter_list pl.isList ⟨s.heap.objs.size,_,_,_,_,_,_,rfl,Walks.list (A:=X.A.in1) (show X.A.in1.handled=none from I.ok.hd hc) s.heap.objs.size p hne its.toArray,⟨⟨_,Heap.get?_push_size _ rfl,rfl,rfl⟩,pl.isList.at fun o e=>Heap.get?_push_of_some _ e⟩,tr,fun h' tk k=>?_⟩)
 have Iw:Inv X aa σ H { s with heap:=h',toks:=tk }:=tF I k
 refine⟨.bl (bs.all id),H,Iw,?_,q⟩
 show _=Value.bool _
 congr 1
 have:∀(l:List Bool),(List.range l.length).all (fun i=>(l[i]?).getD false)=l.all id:=fun l=>by
  rw[Bool.eq_iff_iff]
  simp only[List.all_eq_true,List.mem_range,id]
  constructor
  ·intro h x hx
   obtain⟨i,hi,e⟩:=List.getElem_of_mem hx
   have:=h i hi
   rw[List.getElem?_eq_getElem hi,e] at this
   exact this
  ·intro h i hi
   rw[List.getElem?_eq_getElem hi]
   exact h _ (List.getElem_mem _)
 rw[List.size_toArray,←hl]
 exact this bs
theorem q0 {prog:Program}{w:World}{A:Around}{E:Value->Shared->Prop}{s:Shared}{l:Addr}{vs:List Value}{Q:List Value->Shared->Prop}(hl:IsTup s.heap l vs.toArray) (hsz:vs.length≤sizeLine)
  (h:Q vs { s with heap:=(s.heap.push (seqObj "list" #[] 0)).update s.heap.objs.size (Obj.mapSeq (·++vs.toArray)) }):wpAny (model prog w) A (collect (.ref l)) Q E s:=by
 obtain⟨o,ho,hc,n,hd⟩:=id hl
 have ho1:(s.heap.push (seqObj "list" #[] 0)).get? l=some o:=Heap.get?_push_of_some _ ho
 have hS:(s.heap.push (seqObj "list" #[] 0)).get? s.heap.objs.size=some (seqObj "list" #[] 0):=Heap.get?_push_size _ rfl
 unfold collect
 refine wpAny_bind (wpAny_runValue (codeAny_builtin entry_proto_collect' ?_))
 show wpAny _ _ (newList [] >>= fun v=>again (.builtin "list.__iadd__" ⟨[v,.ref l],[]⟩)) _ _ s
 refine wpAny_bind (wpAny_newList (wpAny_pure ⟨Code.quiet_builtin _ (by decide +kernel),codeAny_builtin entry_list_iadd' ?_⟩))
 show wpAny _ _ (Builtin.List.listExtendWith (.ref s.heap.objs.size) (.ref l) (.ref s.heap.objs.size)) _ _ _
 unfold Builtin.List.listExtendWith
 refine wpAny_bind (wpAny_typeOf (T:="tuple") ⟨o,ho1,hc⟩ ?_)
 have e1:(Builtin.List.listSameRef (.ref s.heap.objs.size) (.ref l)||Value.type "tuple"==Value.type "list"||Value.type "tuple"==Value.type "tuple")=true:=by
  rw[show(Value.type "tuple"==Value.type "tuple")=true from rfl,Bool.or_true]
 rw[if_pos e1]
 refine wpAny_bind (listItems_at ho1 hd (wpAny_bind (listItems_at hS rfl ?_)))
 rw[if_neg (by simp)]
 refine wpAny_bind (listUpdate_at hS rfl ?_ (Nat.zero_le _) (by rw[Array.size_append,List.size_toArray];simp;lia))
 refine wpAny_pure ?_
 have hU:=get?_update_seq hS (·++vs.toArray)
 refine wpAny_bind (wpAny_load hU ?_)
 show wpAny _ _ (pure ((#[]:Array Value)++vs.toArray).toList) Q E _
 rw[Array.empty_append,List.toList_toArray]
 exact wpAny_pure h
theorem tG {prog:Program}{w:World}{A:Around}{E:Value->Shared->Prop}{s:Shared}{l:Addr}{vs:List Value}{ns:List Int}{Q:Value->Shared->Prop}(hl:IsTup s.heap l vs.toArray) (hI:IntsAre vs ns) (h64:vs.length<64)
  (h:∀(out:Array Value) (ns':List Int),IntsAre out.toList ns'->ns'.Perm ns->ns'.Pairwise (·≤·)->Q (.ref (s.heap.objs.size+1)) { s with heap:=sortedAll s.heap vs out }) :
  wpAny (model prog w) A (call (.builtin "sorted") [.ref l]) Q E s:=by
 refine Calls.call_function_entry kind_sorted plain_sorted entry_sorted (args_sorted1 _) ?_
 have hz:((s.heap.push (seqObj "list" #[] 0)).update s.heap.objs.size (Obj.mapSeq (·++vs.toArray))).objs.size=s.heap.objs.size+1:=by rw[Heap.size_update,size_push']
 have hL:(((s.heap.push (seqObj "list" #[] 0)).update s.heap.objs.size (Obj.mapSeq (·++vs.toArray))).push (seqObj "list" vs.toArray 0)).get? (s.heap.objs.size+1)=some (seqObj "list" vs.toArray 0):=by
  rw[←hz]
  exact Heap.get?_push_size _ rfl
 unfold Builtin.«sorted»
 refine wpAny_bind (m:=checkCount "sorted" 1 1 _) (wpAny_pure (wpAny_bind (q0 hl (by rw[sizeLine_eq];lia) (wpAny_bind (wpAny_newList ?_)))))
 show wpAny _ _ _ _ _ { s with heap:=((s.heap.push (seqObj "list" #[] 0)).update s.heap.objs.size (Obj.mapSeq (·++vs.toArray))).push (seqObj "list" vs.toArray 0) }
 rw[hz]
 refine wpAny_bind (wpAny_holding (wpAny_call_entry PyProof.Rows.slot_list_sort ⟨_,hL,rfl⟩ PyProof.Rows.entry_list_sort (list_sort_tree hL hI h64 fun out ns' a1 a2 a3=>⟨_,rfl,wpAny_pure ⟨_,rfl,h out ns' a1 a2 a3⟩⟩) (args_list_sort _)))
theorem oO:cm X (.builtin "sorted") (fun xs H Q=>∃(p:Addr) (ns:List Int),xs=[.ref p]∧SqT X.K H p (ns.map V.int)∧ns.length<64∧∀(l:Addr) (ns':List Int),H l=none->ns'.Perm ns->ns'.Pairwise (·≤·)->Q (.ref l) (upd H l (.lst (ns'.map V.int)))):=by
 intro aa s σ H xs us Q I r h
 obtain⟨p,ns,rfl,hp,h64,q⟩:=h
 obtain⟨u,rfl,ru⟩:=dB r
 cases ru
 obtain⟨its,rv,pl,hz⟩:=I.tuple hp
 have hl:=rv.length
 rw[List.length_map] at hl
 refine tG pl (tj rv) (by lia) fun out ns' h1 h2 h3=>?_
 obtain⟨e,he⟩:=sortedAll_at s.heap its out
 have hfresh:H (s.heap.objs.size+1)=none:=I.hok.fresh (Nat.le_succ _)
 have hv:av (ns'.map V.int) out.toList:=iU h1
 have hlen:ns'.length=ns.length:=h2.length_eq
 refine⟨.ref (s.heap.objs.size+1),_,I.laid (t':=s.toks) (o:=.lst (ns'.map V.int)) (fun b o z=>sortedAll_old z) (Nat.le_succ _) ⟨by rw[List.length_map,sizeLine_eq];lia,out.toList,e,hv,by simpa [seqObj] using he⟩,rfl,q _ ns' hfresh h2 h3⟩
theorem wR:OpR X (binaryOp .Add) (fun x y H Q=>∃a b ys,x=.ref a∧y=.ref b∧SqT X.K H a []∧SqT X.K H b ys∧Q (.ref b) H):=by
 intro aa s σ H x y v u Q I rx ry h
 obtain⟨a,b,ys,rfl,rfl,ha,hb,q⟩:=h
 cases rx
 cases ry
 obtain⟨its,r1,p1,_⟩:=I.tuple ha
 obtain⟨its2,r2,p2,_⟩:=I.tuple hb
 cases r1
 obtain⟨⟨cls,dd,data,sl⟩,ho,hc,n,hd⟩:=id p1
 obtain⟨⟨cls2,dd2,data2,sl2⟩,ho2,hc2,n2,hd2⟩:=id p2
 simp only at hc hd hc2 hd2
 subst hc hd hc2 hd2
 exact concat_meets ⟨_,ho,rfl⟩ ⟨_,ho2,rfl⟩ noFill_tuple_add seq_tuple_add PySem.F.slot_tuple_add PySem.F.entry_tuple_add (PySem.F.args_tuple_add_2 _ _)
  (tuple_addW0 a b #[] its2.toArray n n2 dd dd2 sl sl2 rfl) ⟨ho,ho2,⟨.ref b,H,I,rfl,q⟩⟩
end
end L2
namespace L2
open PySem PySem.Spec PyProof.Rows
def PF (X:Cx) (e:Expr) (P:St->Hp->Prop) (k:Nat):Prop:=
 ∀(aa:List (Addr×Obj)) (s:Shared) (σ:St) (H:Hp) (Q:Value->Shared->Prop),Inv X aa σ H s->P σ H->(∀y t s',Inv X aa σ H s'->y.length≤k->Q (.str y t) s')->wpAny (model X.prog X.w) X.A (eval e X.env) Q X.xe s
def PJ (X:Cx) (es:List Expr) (P:St->Hp->Prop) (n:Nat):Prop:=
 ∀(aa:List (Addr×Obj)) (s:Shared) (σ:St) (H:Hp) (acc:Str) (Q:Str->Shared->Prop),Inv X aa σ H s->P σ H->acc.length+n≤sizeLine->(∀out s',Inv X aa σ H s'->out.length≤acc.length+n->Q out s')->
  Joins (model X.prog X.w) X.A X.xe (evalEach es X.env) acc Q s
section
variable {X:Cx}{e:Expr}{es:List Expr}{P R:St->Hp->Prop}{k n:Nat}
theorem fT:PJ X [] (fun _ _=>True) 0:=fun aa s σ H acc Q I _ _ h=>h acc s I (Nat.le_refl _)
theorem bh (h1:PF X e P k) (h2:PJ X es R n) (he:evalEach (e::es) X.env=eval e X.env::evalEach es X.env:=by rfl):PJ X (e::es) (fun σ H=>P σ H∧R σ H) (k+n):=by
 intro aa s σ H acc Q I hp hz hq
 rw[he]
 refine h1 aa s σ H _ I hp.1 fun y t s1 I1 hy=>?_
 have hl:(acc++y).length=acc.length+y.length:=strLen_append acc y
 refine⟨y,t,rfl,by lia,?_⟩
 exact h2 aa s1 σ H _ _ I1 hp.2 (by lia) fun out s2 I2 ho=>hq out s2 I2 (by lia)
theorem eX {v₁ v₂:Expr}{rest:List Expr}{pos:Pos}(h:PJ X (v₁::v₂::rest) P n) (hn:n≤sizeLine):PE X (.JoinedStr (v₁::v₂::rest) pos) (fun σ H Q=>P σ H∧∀x,Q (.str x) H):=by
 intro aa s σ H Q I hq
 have hz:Str.empty.length=0:=rfl
 refine wpAny_JoinedStr (h aa s σ H _ _ I hq.1 (by lia) fun out s' I' ho=>⟨by lia,?_⟩)
 exact⟨.str out,H,I'.tok _,⟨_,rfl⟩,hq.2 out⟩
theorem cy {x:Str}{j pos}(h:x.length≤k):PF X (.Constant (.str x) j pos) (fun _ _=>True) k:=fun aa s σ H Q I _ hq=>Calls.Constant_str (hq x _ _ (I.tok _) h)
def isI (te:TE):St->Hp->Prop:=fun σ H=>te σ H fun v H'=>H'=H∧∃i:Int,v=.int i∧i.natAbs.log2<1900
def isT (K:W.Frag) (te:TE):St->Hp->Prop:=fun σ H=>te σ H fun v H'=>H'=H∧∃(a:Addr) (ns:List Int),v=.ref a∧SqT K H a (ns.map V.int)∧ns.length≤64∧∀i∈ns,i.natAbs.log2<1900
variable {te:TE}{pos:Pos}
theorem lO {i:Int}(h:i.natAbs.log2<1900):(Str.ofString (toString i)).length≤1901:=by
 rw[PySem.ofString_length]
 exact int_text_length_le (by decide) h
theorem gN (h:PE X e te):PF X (.FormattedValue e (-1) none pos) (isI te) 1901:=by
 intro aa s σ H Q I hp hq
 refine wpAny_FormattedValue_plain (thn (h aa s σ H _ I hp) fun u s1 hh9=>?_)
 obtain⟨v,H1,I1,r,eH,i,ev,hb⟩:=hh9
 subst eH ev
 obtain⟨t,rfl⟩:=r
 exact wpAny_formatField_int (by lia) (hq _ _ _ (I1.tok _) (lO hb))
theorem yY (h:PE X e te):PF X (.FormattedValue e 114 none pos) (isI te) 1901:=by
 intro aa s σ H Q I hp hq
 refine wpAny_FormattedValue_repr (thn (h aa s σ H _ I hp) fun u s1 hh9=>?_)
 obtain⟨v,H1,I1,r,eH,i,ev,hb⟩:=hh9
 subst eH ev
 obtain⟨t,rfl⟩:=r
 have hl:=lO hb
 have hz:(Str.ofString (toString i)).length≤sizeLine:=by rw[sizeLine_eq];lia
 refine wpAny_pyReprObj_gives (typeIs_int _ i t) F.slot_int_repr F.entry_int_repr (F.args_int_repr_1 _) (gives_int_repr i t (by lia)) ?_ rfl hz
 exact wpAny_formatField_str (hq _ _ _ (I1.tok _) hl) (hq _ _ _ ((I1.tok _).tok _) hl) hz
theorem AD {ts:List Str}{m:Nat}(h:∀t∈ts,t.length≤m):(tupleText ts).length≤ts.length*(m+2)+4:=by
 have hp:∀l:List Str,(∀t∈l,t.length≤m)->piled l≤l.length*(m+2):=fun l=>by
  induction l with
  | nil=>intro _;simp[piled]
  | cons t r ih=>
   intro hh
   have:=ih fun u hu=>hh u (List.mem_cons_of_mem _ hu)
   have h1:=hh t List.mem_cons_self
   rw[piled_cons,List.length_cons,Nat.succ_mul]
   lia
 have hj:(Str.join ", " ts).length≤piled ts:=by
  cases ts with
  | nil=>exact Nat.le_refl _
  | cons t r=>have:=join_length_add (t::r) (by simp);lia
 unfold tupleText
 rw[strLen_append,strLen_append]
 have e1:(("(":String):Str).length=1:=rfl
 have e2:((if ts.length==1 then ",)" else ")":String):Str).length≤2:=by
  split
  ·exact Nat.le_of_eq rfl
  ·exact Nat.le_succ_of_le (Nat.le_of_eq rfl)
 have:=hp ts h
 have e1':(Str.ofString "(").length=1:=rfl
 lia
theorem lP {k:Nat}(hr:Room k X.A) (h:PE X e te):PF X (.FormattedValue e 114 none pos) (isT X.K te) 200000:=by
 intro aa s σ H Q I hp hq
 refine wpAny_FormattedValue_repr (thn (h aa s σ H _ I hp) fun u s1 hh9=>?_)
 obtain⟨v,H1,I1,r,eH,a,ns,ev,ht,hn,hb⟩:=hh9
 subst eH ev
 cases r
 obtain⟨its,rv,pl,hz⟩:=I1.tuple ht
 obtain⟨o,ho,hc,n,hd⟩:=pl
 have hall:∀(ns:List Int) (us:List Value),(∀i∈ns,i.natAbs.log2<1900)->av (ns.map V.int) us->ReprAllK X.prog X.w [] s1.heap 0 us (ns.map fun i=>Str.ofString (toString i)):=by
  intro ns
  induction ns with
  | nil=>intro us _ rr;cases rr;exact .nil
  | cons i ns ih=>
   intro us hh rr
   cases rr with
   | cons r1 r2=>
    obtain⟨t,rfl⟩:=r1
    exact .cons (ReprK.of_is (ReprIs.int t (by have:=hh i List.mem_cons_self;lia)) _ _ _) (ih _ (fun j hj=>hh j (List.mem_cons_of_mem _ hj)) r2)
 have hlen:(tupleText (ns.map fun i=>Str.ofString (toString i))).length≤200000:=by
  have:=AD (ts:=ns.map fun i=>Str.ofString (toString i)) (m:=1901) fun t ht=>by
   obtain⟨i,hi,rfl⟩:=List.mem_map.mp ht
   exact lO (hb i hi)
  rw[List.length_map] at this
  have h2:ns.length*(1901+2)≤64*1903:=Nat.mul_le_mul_right _ hn
  lia
 have hu:=hr.units
 refine wpAny_pyReprObj_tupleK ho hc hd (by simp) (hall ns its hb rv) hr.gd (fun b _=>Clear.nil b) (by lia) (fun b o z=>z) (fun h' u tk hk=>?_) (by rw[sizeLine_eq];lia)
 have I2:Inv X aa σ H1 { s1 with heap:=h',toks:=tk }:=I1.kept hk
 exact wpAny_formatField_str (hq _ _ _ I2 hlen) (hq _ _ _ (I2.tok _) hlen) (by rw[sizeLine_eq];lia)
end
end L2
namespace L2
open PySem PySem.Spec PyProof.Rows
def gA (a:Addr) (cls:Value):HO:=.ext fun h=>∃oe vs,h.get? a=some oe∧oe.cls=cls∧oe.data=.fields vs
theorem yZ {P:Program}{w:World}{H:Hp}{h:Heap}{a T:Addr}{cls:Value}(x:Trc h a cls T):aS P w H h a (gA a cls):=by
 obtain⟨_,oe,vs,_,_,e1,e2,e3,_⟩:=x
 exact⟨⟨oe,vs,e1,e2.1,e3⟩,⟨oe,e1⟩,fun h1 h2 ⟨o,ws,q1,q2,q3⟩ k=>⟨o,ws,k _ q1,q2,q3⟩⟩
section
variable {X:Cx}{aa:List (Addr×Obj)}{σ:St}{H H':Hp}{s:Shared}{h':Heap}
theorem Inv.stepN {g':Array GenState}{t':Nat}{d':Drawn}{ch:List Addr}(I:Inv X aa σ H s)
  (hch:∀b∈ch,X.s₀.heap.get? b=none∧b≠X.env.locals∧(∀x c,X.env.cells.lookup x=some c->c≠b)∧∀p∈X.pn++aa,p.1≠b)
  (keep:∀b o,b∉frs X.stack->b∉ch->s.heap.get? b=some o->h'.get? b=some o)
  (slot:∀b o,b∈frs X.stack->s.heap.get? b=some o->∃sl,h'.get? b=some { o with slots:=sl })
  (hex:X.ex=[]) (hso:X.stack=X.env::X.outer) (hchH:∀b∈ch,H b=none) (hg:AllBare g') :
  Inv X aa σ H { s with heap:=h',gens:=g',drawn:=d',toks:=t' }:=by
 have noex:∀b,b∉X.ex:=fun b z=>by rw[hex] at z;exact absurd z (by simp)
 have nfr:∀b o,X.s₀.heap.get? b=some o->b∉X.fs->b∉frs X.stack:=fun b o e1 nb z=>by
  rcases List.mem_cons.mp (I.stkSub b z) with r|r
  ·exact absurd (Nat.lt_of_lt_of_le (Heap.lt_size e1) I.ok.above) (by rw[r];exact Nat.lt_irrefl _)
  ·exact nb r
 have nch:∀b o,X.s₀.heap.get? b=some o->b∉ch:=fun b o e1 z=>by rw[(hch b z).1] at e1;cases e1
 have ns:∀m,s.heap.Ns X.env.locals m->h'.Ns X.env.locals m:=fun m hm=>by
  obtain⟨o,es,ep,ho,r⟩:=hm
  by_cases hb:X.env.locals∈frs X.stack
  ·obtain⟨sl,e⟩:=slot _ o hb ho
   exact⟨_,es,ep,e,r⟩
  ·exact⟨o,es,ep,keep _ o hb (fun z=>(hch _ z).2.1 rfl) ho,r⟩
 have cellK:∀x c,X.env.cells.lookup x=some c->∀v,s.heap.IsCell c v->h'.IsCell c v:=fun x c e v ⟨o,ho,hd⟩=>by
  by_cases hb:c∈frs X.stack
  ·obtain⟨sl,q⟩:=slot c o hb ho
   exact⟨_,q,hd⟩
  ·exact⟨o,keep c o hb (fun z=>(hch c z).2.2.1 x c e rfl) ho,hd⟩
 refine⟨I.ok,I.os,hg,⟨fun b o e n hb hx=>?_,fun b o e n hb hx=>?_,fun b o e n hx=>I.base.free b o e n hx,fun b o e hx=>?_,I.base.tups,I.base.frzs,I.base.tbls⟩,?_,fun x c e=>?_,I.free,I.freeC,fun p hp=>?_,fun a o e=>?_,I.len⟩
 ·exact keep b o (nfr b o e hb) (nch b o e) (I.base.keep b o e n hb hx)
 ·obtain⟨sl,e1⟩:=I.base.slot b o e n hb hx
  obtain⟨sl',e2⟩:=slot b _ (yd hso hb) e1
  exact⟨sl',e2⟩
 ·obtain⟨o',e1⟩:=I.base.there b o e hx
  by_cases hb:b∈frs X.stack
  ·obtain⟨sl,e2⟩:=slot b o' hb e1
   exact⟨_,e2⟩
  ·exact⟨o',keep b o' hb (nch b o e) e1⟩
 ·obtain⟨m,hn,hl⟩:=I.loc
  refine⟨m,ns m hn,fun i x v e1 e2 e3=>?_⟩
  obtain⟨u,r,l⟩:=hl i x v e1 e2 e3
  refine⟨u,r,?_⟩
  rcases l with l|⟨k,c,e,z⟩
  ·exact .inl l
  ·exact .inr ⟨k,c,e,cellK x c e _ z⟩
 ·obtain⟨v,z⟩:=I.cell x c e
  exact⟨v,cellK x c e v z⟩
 ·obtain⟨e,n,ne,nf,d⟩:=I.pin p hp
  refine⟨keep p.1 p.2 (fun z=>?_) (fun z=>(hch p.1 z).2.2.2 p hp rfl) e,n,ne,nf,d⟩
  rcases List.mem_cons.mp (I.stkSub _ z) with r|r
  ·exact ne r
  ·exact nf r
 ·refine(I.hok a o e).stay (fun b u hb q=>keep b u (fun z=>?_) (fun z=>?_) q) (fun _ z=>z) fun _ _ z=>z
  ·have n:=I.stkFree b z
   rcases hb with r|r
   ·rw[r,e] at n;cases n
   ·rw[r] at n;cases n
  ·have n:=hchH b z
   rcases hb with r|r
   ·rw[r,e] at n;cases n
   ·rw[r] at n;cases n
theorem Inv.track {D:Addr}{o:HO}(I:Inv X aa σ H s) (hD:H D=none) (h0:X.s₀.heap.get? D=none) (hL:D≠X.env.locals) (hc:∀x c,X.env.cells.lookup x=some c->c≠D) (hp:∀p∈X.pn++aa,p.1≠D)
  (hok:aS X.prog X.w (upd H D o) s.heap D o):Inv X aa σ (upd H D o) s:=by
 have ne:∀b u,H b=some u->b≠D:=fun b u e z=>by rw[z,hD] at e;cases e
 have n0:∀b ob,X.s₀.heap.get? b=some ob->b≠D:=fun b ob e z=>by rw[z,h0] at e;cases e
 refine⟨I.ok,I.os,I.bare,⟨I.base.keep,I.base.slot,fun b ob e n hx=>by rw[ap (n0 b ob e)];exact I.base.free b ob e n hx,I.base.there,fun b xs e=>?_,fun b ob u e=>?_,fun b ps e=>?_⟩,I.loc,I.cell,by rw[ap (Ne.symm hL)];exact I.free,
  fun x c e=>by rw[ap (hc x c e)];exact I.freeC x c e,fun p hpp=>?_,fun a u e=>?_,I.len⟩
 ·have q:=I.base.tups b xs e
  rw[ap (ne b _ q)];exact q
 ·have q:=I.base.frzs b ob u e
  rw[ap (ne b _ q)];exact q
 ·obtain⟨m,q⟩:=I.base.tbls b ps e
  exact⟨m,by rw[ap (ne b _ q)];exact q⟩
 ·obtain⟨e,n,r⟩:=I.pin p hpp
  exact⟨e,by rw[ap (hp p hpp)];exact n,r⟩
 ·by_cases ha:a=D
  ·subst ha
   rw[ag] at e
   cases e
   exact hok
  ·rw[ap ha] at e
   exact(I.hok a u e).stay (fun b v _ q=>q) (fun b q=>by rw[ap (ne b _ q)];exact q) fun b xs q=>by rw[ap (ne b _ q)];exact q
theorem Inv.forget {i:Nat}{x:Str}{m:Str->Option Value}{v:Option Value}{t':Nat}(I:Inv X aa σ H s) (hN:X.N.Nodup) (hi:X.N[i]?=some x)
  (hl:∀(i:Nat) (x:Str) (v:V),X.N[i]?=some x->σ[i]?=some (some v)->Vis X.env.scope x->∃u,az v u∧Ak X.env s.heap m x u)
  (hn':h'.Ns X.env.locals (fun y=>if y=x then v else m y)) (hs:Heap.SameBut X.env.locals s.heap h'):Inv X aa (σ.set i none) H { s with heap:=h',toks:=t' }:=by
 have hiσ:i<σ.length:=by rw[I.len];exact(List.getElem?_eq_some_iff.mp hi).1
 have ne0:∀b o,X.s₀.heap.get? b=some o->b≠X.env.locals:=fun b o e=>Nat.ne_of_lt (Nat.lt_of_lt_of_le (Heap.lt_size e) I.ok.above)
 refine⟨I.ok,I.os,I.bare,⟨fun b o e n hb hx=>(hs.2 b (ne0 b o e)).trans (I.base.keep b o e n hb hx),fun b o e n hb hx=>?_,I.base.free,fun b o e hx=>?_,I.base.tups,I.base.frzs,I.base.tbls⟩,⟨_,hn',fun j y v' e1 e2 e3=>?_⟩,fun y c e=>?_,I.free,I.freeC,fun p hp=>?_,fun a o e=>?_,by simpa using I.len⟩
 ·obtain⟨sl,e1⟩:=I.base.slot b o e n hb hx
  exact⟨sl,(hs.2 b (ne0 b o e)).trans e1⟩
 ·obtain⟨o',e1⟩:=I.base.there b o e hx
  exact⟨o',(hs.2 b (ne0 b o e)).trans e1⟩
 ·by_cases hj:j=i
  ·subst hj
   rw[List.getElem?_set_self hiσ] at e2
   cases e2
  ·rw[List.getElem?_set_ne (Ne.symm hj)] at e2
   obtain⟨u',r',q⟩:=hl j y v' e1 e2 e3
   refine⟨u',r',?_⟩
   rcases q with⟨k,e⟩|⟨k,c,e,z⟩
   ·refine .inl ⟨k,?_⟩
    have:y≠x:=fun e=>hj (jX hN e1 (e▸hi))
    simp[this,e]
   ·exact .inr ⟨k,c,e,z.sameBut hs (I.cne y c e)⟩
 ·obtain⟨w',z⟩:=I.cell y c e
  exact⟨w',z.sameBut hs (I.cne y c e)⟩
 ·obtain⟨e,n,ne,nf,d⟩:=I.pin p hp
  exact⟨(hs.2 p.1 ne).trans e,n,ne,nf,d⟩
 ·refine(I.hok a o e).stay (fun c w' hc q=>(hs.2 c ?_).trans q) (fun _ q=>q) fun _ _ q=>q
  rintro rfl
  have hf:=I.free
  rcases hc with z|hc
  ·rw[←z] at e;rw[hf] at e;cases e
  ·rw[hf] at hc;cases hc
abbrev Cx.inn (X:Cx) (A':Around) (c:Bool) (pn':List (Addr×Obj)) (xe':Value->Shared->Prop):Cx:={ X with A:=A',calm:=c,pn:=pn',xe:=xe' }
theorem Inv.inn {A':Around}{c:Bool}{pn' pins':List (Addr×Obj)}{xe':Value->Shared->Prop}(I:Inv X aa σ H s) (hf:A'.frames=X.A.frames) (hh:c=true->A'.handled=none) (hp:∀p∈pn'++pins',p∈X.pn++aa) :
  Inv (X.inn A' c pn' xe') pins' σ H s:=
 ⟨⟨I.ok.mod,I.ok.kind,I.ok.glob,I.ok.blt,I.ok.above,I.ok.inj,I.ok.has,I.ok.cab,hh,hf.trans I.ok.frames,I.ok.stk,I.ok.exf,I.ok.bs,I.ok.bsz,I.ok.noex,I.ok.exfs,I.ok.funs,I.ok.frf⟩,
  I.os,I.bare,I.base,I.loc,I.cell,I.free,I.freeC,fun p h=>I.pin p (hp p h),I.hok,I.len⟩
theorem Inv.out {A':Around}{c:Bool}{pn' pins':List (Addr×Obj)}{xe':Value->Shared->Prop}(I:Inv (X.inn A' c pn' xe') pins' σ H s) (hf:X.A.frames=some X.stack) (hh:X.calm=true->X.A.handled=none) (hp:∀p∈X.pn++aa,p∈pn'++pins') :
  Inv X aa σ H s:=
 ⟨⟨I.ok.mod,I.ok.kind,I.ok.glob,I.ok.blt,I.ok.above,I.ok.inj,I.ok.has,I.ok.cab,hh,hf,I.ok.stk,I.ok.exf,I.ok.bs,I.ok.bsz,I.ok.noex,I.ok.exfs,I.ok.funs,I.ok.frf⟩,
  I.os,I.bare,I.base,I.loc,I.cell,I.free,I.freeC,fun p h=>I.pin p (hp p h),I.hok,I.len⟩
end
theorem mH {M:Model}{K:W.Frag}{h:Heap}{C:Addr}(I:K.In h) (hc:W.isClsIn K C=true):W.Looks M h (isType (.ref C)) true:=by
 unfold W.isClsIn W.clsIn at hc
 split at hc
 ·rename_i c' d' cd' sl' lk
  intro A Q E s k q
  unfold isType loadHead
  exact wpAny_bind (wpAny_loadPart (k _ _ (I _ _ lk)) (wpAny_pure q))
 ·cases hc
theorem kK {M:Model}{A:Around}{E:Value->Shared->Prop}{K:W.Frag}{s:Shared}{e C CN:Addr}{oe:Obj}{Q:Bool->Shared->Prop}(I:K.In s.heap) (he:s.heap.get? e=some oe) (hc:oe.cls=.ref C)
  (hnt:W.instIn K (.ref CN) (.type "tuple")=some false) (hxc:W.mroIn K CN (.type "BaseException")=some true) (hcl:W.isClsIn K CN=true) (hm:W.mroIn K C (.ref CN)=some true) (hq:Q true s) :
  wpAny M A (excMatches (.ref e) (.ref CN)) Q E s:=by
 have L1:=W.looks_instIn (M:=M) I hnt
 have L2:=W.looks_mroIn (M:=M) I hxc
 have L3:=W.looks_mroIn (M:=M) I hm
 have L0:W.Looks M s.heap (isType (.ref CN)) true:=mH I hcl
 have LE:W.Looks M s.heap (isExcClass (.ref CN)) true:=L0.andThen (by simpa using L2)
 have LT:W.Looks M s.heap (typeOf (.ref e)) (.ref C):=hc▸(W.Looks.ld he).andThen .now
 obtain⟨hp,g,d,tk,os⟩:=s
 unfold excMatches
 refine wpAny_bind (L1.at ?_)
 simp only[Bool.false_eq_true,if_false,pure_bind,List.forIn_cons,List.forIn_nil,bind_assoc]
 refine wpAny_bind (LE.at ?_)
 simp only[Bool.not_true,Bool.false_eq_true,if_false,pure_bind]
 refine wpAny_bind (LT.at ?_)
 refine wpAny_bind (L3.at ?_)
 simp only[if_true,pure_bind]
 exact wpAny_pure hq
def EL (K:W.Frag) (CN:Addr) (tb:(St->XK)->TS) (ie:Nat) (ts:TS):TS:=fun D σ H=>
 tb (fun σ' cls _ H'=>∃C,cls=.ref C∧W.mroIn K C (.ref CN)=some true∧∀e,H' e=none->ts { nx:=fun σ2 H2=>D.nx (σ2.set ie none) H2,rt:=fun _ _=>False } (σ'.set ie (some (.ref e))) (upd H' e (gA e (.ref C)))) D σ H
section
variable {X:Cx}{body suite:List Stmt}{b₀:Stmt}{x nm:Str}{CN:Addr}{np hpos pos:Pos}{ie:Nat}{tb:(St->XK)->TS}{ts:TS}
theorem oP (hc:X.calm=true) (hex:X.ex=[]) (hso:X.stack=X.env::X.outer) (hfr:X.env.frame=some X.env.locals) (hg:Gl X x) (hm:X.mg x=some (.ref CN))
  (hnt:W.instIn X.K (.ref CN) (.type "tuple")=some false) (hxc:W.mroIn X.K CN (.type "BaseException")=some true) (hcl:W.isClsIn X.K CN=true)
  (hN:X.N.Nodup) (hi:X.N[ie]?=some nm) (hl:X.env.scope.names.lookup nm=some .local)
  (hb:∀(pn':List (Addr×Obj)) (xe':Value->Shared->Prop) (E:St->XK),bI (CX1 X.prog X.w) (X.inn X.A X.calm pn' xe') E->PSs (X.inn X.A X.calm pn' xe') body (tb E))
  (hs:∀(A':Around) (pn':List (Addr×Obj)) (xe':Value->Shared->Prop),PSs (X.inn A' false pn' xe') (b₀::suite) ts) (hd:(x==("__debug__":Str))=false:=by decide) :
  PS X (.Try body [.ExceptHandler (some (.Name x np)) (some nm) (b₀::suite) hpos] [] [] pos) (EL X.K CN tb ie ts):=by
 intro aa s σ H D I h
 refine wpAny_Try_except ?_
 have pass:bI (CX1 X.prog X.w) (X.inn X.A X.calm (X.pn++aa) (fun e s₁=>wpAny (model X.prog X.w) X.A (noteFrame e X.env) (fun _ s₂=>wpAny (model X.prog X.w) X.A (setFlight e none) (fun _ s₃=>
   wpAny (model X.prog X.w) X.A (handleBy e X.env [.ExceptHandler (some (.Name x np)) (some nm) (b₀::suite) hpos]) (SP X aa D) X.xe s₃) X.xe s₂) X.xe s₁))
   (fun σ' cls _ H'=>∃C,cls=.ref C∧W.mroIn X.K C (.ref CN)=some true∧∀e,H' e=none->ts { nx:=fun σ2 H2=>D.nx (σ2.set ie none) H2,rt:=fun _ _=>False } (σ'.set ie (some (.ref e))) (upd H' e (gA e (.ref C)))):=by
  intro pins' σ' H' s' e s'' I' hx
  obtain⟨ea,cls,n,H'',rfl,ho,hgn,un,hok,fl,hcx,C,rfl,hmro,q⟩:=hx
  have Ic:=I'.call' (ch:=[]) ho un hok hgn (fun b z=>absurd z (by simp))
  have I1:Inv X aa σ' H'' s'':=Ic.out (aa:=aa) I.ok.frames I.ok.hd fun p hp=>List.mem_append_left _ hp
  obtain⟨T,trc,hT0,hTH⟩:=fl.tr
  have old:∀b,s'.heap.get? b=none->X.s₀.heap.get? b=none:=fun b hb'=>by
   cases e1:X.s₀.heap.get? b with
   | none=>rfl
   | some o=>
    obtain⟨o',e2⟩:=I'.base.there b o e1 (by intro z;rw[show(X.inn X.A X.calm (X.pn++aa) _).ex=X.ex from rfl,hex] at z;exact absurd z (by simp))
    rw[hb'] at e2
    cases e2
  have apart:∀b,s'.heap.get? b=none->X.s₀.heap.get? b=none∧b≠X.env.locals∧(∀y c,X.env.cells.lookup y=some c->c≠b)∧∀p∈X.pn++aa,p.1≠b:=fun b hb'=>by
   refine⟨old b hb',?_,fun y c hy z=>?_,fun p hp z=>?_⟩
   ·rintro rfl
    obtain⟨m,⟨o,_,_,e2,_⟩,_⟩:=I'.loc
    have e3:s'.heap.get? X.env.locals=some o:=e2
    rw[hb'] at e3
    cases e3
   ·obtain⟨v,o,e2,_⟩:=I'.cell y c hy
    rw[z,hb'] at e2
    cases e2
   ·have e2:=(I'.pin p (List.mem_append_left _ hp)).1
    rw[z,hb'] at e2
    cases e2
  have hch:∀b∈[ea,T],X.s₀.heap.get? b=none∧b≠X.env.locals∧(∀y c,X.env.cells.lookup y=some c->c≠b)∧∀p∈X.pn++aa,p.1≠b:=fun b hb'=>by
   rcases List.mem_cons.mp hb' with z|z
   ·rw[z];exact apart ea fl.new
   ·rw[List.mem_singleton.mp z];exact apart T hT0
  have hchH:∀b∈[ea,T],H'' b=none:=fun b hb'=>by
   rcases List.mem_cons.mp hb' with z|z
   ·rw[z];exact fl.free
   ·rw[List.mem_singleton.mp z];exact hTH
  have hB:∀b∈[ea,T],(W.hideAll s''.heap (frs X.stack++[ea,T])).get? b=none:=fun b hb'=>W.hideAll_none _ (List.mem_append_right _ hb')
  have hst:(W.hideAll s''.heap (frs X.stack++[ea,T])).StaysIn s''.heap:=fun b o z=>W.of_hideAll _ z
  have hff:s''.heap.FunFrames (W.hideAll s''.heap (frs X.stack++[ea,T])) X.stack:=W.funFrames_hide I1.stack fun env he a ha=>List.mem_append_left _ (List.mem_filterMap.mpr ⟨env,he,ha⟩)
  obtain⟨a0,tw⟩:=trc.traced (hB T (by simp))
  show wpAny (model X.prog X.w) X.A (noteFrame (.ref ea) X.env) _ X.xe s''
  refine wpAny_noteFrame_onW (outer:=X.outer) (L:=X.env.locals) (hso▸I.ok.frames) (hso▸hff) hfr tw hst (hB ea (by simp)) fun h4 hN4=>?_
  obtain⟨n1,n2,n3,n4⟩:=hN4
  refine wpAny_setFlight_noneW n1 n2 n3 fun h5 m1 m2 m3 m4=>?_
  have kp5:∀b o,b∉frs X.stack->b∉[ea,T]->s''.heap.get? b=some o->h5.get? b=some o:=fun b o z1 z2 e1=>m1 b o (W.hideAll_get _ e1 fun m=>(List.mem_append.mp m).elim z1 z2)
  have sl5:∀b o,b∈frs X.stack->s''.heap.get? b=some o->∃sl,h5.get? b=some { o with slots:=sl }:=fun b o hb' e1=>by
   obtain⟨o',e2,nd⟩:=fq I1 hb'
   rw[e1] at e2
   cases e2
   obtain⟨sl,e3⟩:=n4 b o e1 nd
   exact⟨sl,m4 b _ e3 nd⟩
  have I5:Inv X aa σ' H'' { s'' with heap:=h5 }:=I1.stepN (g':=s''.gens) (d':=s''.drawn) (t':=s''.toks) hch kp5 sl5 hex hso hchH I1.bare
  have hfm:(X.A.mark (some (.ref ea))).frames=X.A.frames:=rfl
  refine wpAny_handleBy_cons (codeAny_handlers_test ?_) (by intro q;cases q)
  have J5:Inv (X.inn (X.A.mark (some (.ref ea))) false (X.pn++aa) (notedBy (model X.prog X.w) (X.A.mark (some (.ref ea))) X.env (cameBackBy (model X.prog X.w) X.A X.env X.xe))) [] σ' H'' { s'' with heap:=h5 }:=
   I5.inn hfm (fun z=>by cases z) fun p hp=>by simpa using hp
  refine eU J5 hg hm ?_ hd
  obtain⟨T5,trc5,hT5⟩:=kJ m3
  obtain⟨_,oe,_,_,_,e5,c5,_⟩:=id trc5
  refine kK I5.kIn e5 c5.1 hnt hxc hcl hmro ?_
  refine codeAny_handlers_suite_as ?_
  refine wpAny_setFlight_noneW m1 m2 m3 fun h6 p1 p2 p3 p4=>?_
  have kp6:∀b o,b∉frs X.stack->b∉[ea,T]->s''.heap.get? b=some o->h6.get? b=some o:=fun b o z1 z2 e1=>p1 b o (W.hideAll_get _ e1 fun m=>(List.mem_append.mp m).elim z1 z2)
  have sl6:∀b o,b∈frs X.stack->s''.heap.get? b=some o->∃sl,h6.get? b=some { o with slots:=sl }:=fun b o hb' e1=>by
   obtain⟨o',e2,nd⟩:=fq I1 hb'
   rw[e1] at e2
   cases e2
   obtain⟨sl,e3⟩:=sl5 b o hb' e1
   exact⟨sl,p4 b _ e3 nd⟩
  have I6:Inv X aa σ' H'' { s'' with heap:=h6 }:=I1.stepN (g':=s''.gens) (d':=s''.drawn) (t':=s''.toks) hch kp6 sl6 hex hso hchH I1.bare
  obtain⟨T6,trc6,_⟩:=kJ p3
  have I7:Inv X aa σ' (upd H'' ea (gA ea (.ref C))) { s'' with heap:=h6 }:=
   I6.track fl.free (hch ea (by simp)).1 (hch ea (by simp)).2.1 (hch ea (by simp)).2.2.1 (hch ea (by simp)).2.2.2 (yZ trc6)
  have J7:Inv (X.inn (X.A.mark (some (.ref ea))) false (X.pn++aa) (fun _ _=>False)) [] σ' (upd H'' ea (gA ea (.ref C))) { s'' with heap:=h6 }:=
   I7.inn hfm (fun z=>by cases z) fun p hp=>by simpa using hp
  refine dY (X:=X.inn (X.A.mark (some (.ref ea))) false (X.pn++aa) (fun _ _=>False)) (i:=ie) (v:=.ref ea) J7 hN hi (.inl hl) rfl (fun s8 J8=>?_) (.inr hl)
  refine bU (thn (hs _ _ _ [] s8 _ _ _ J8 (q ea fl.free)) fun f s9 q9=>?_)
  cases f with
  | next=>
   obtain⟨σ9,H9,J9,d9⟩:=q9
   have J9':Inv X aa σ9 H9 s9:=J9.out (aa:=aa) I.ok.frames I.ok.hd fun p hp=>by simpa using hp
   obtain⟨m9,hn9,hl9⟩:=id J9'.loc
   refine wpAny_nameGoes_keeps hl hn9 (by rw[I.ok.kind];rfl) fun h10 v hn10 hs10=>?_
   exact⟨σ9.set ie none,H9,J9'.forget hN hi hl9 hn10 hs10,d9⟩
  | ret u=>obtain⟨v,σ9,H9,J9,r9,d9⟩:=q9;exact d9.elim
  | brk=>obtain⟨σ9,H9,J9,d9⟩:=q9;exact d9.elim
  | cont=>obtain⟨σ9,H9,J9,d9⟩:=q9;exact d9.elim
 have Ib:Inv (X.inn X.A X.calm (X.pn++aa) (fun e s₁=>wpAny (model X.prog X.w) X.A (noteFrame e X.env) (fun _ s₂=>wpAny (model X.prog X.w) X.A (setFlight e none) (fun _ s₃=>
   wpAny (model X.prog X.w) X.A (handleBy e X.env [.ExceptHandler (some (.Name x np)) (some nm) (b₀::suite) hpos]) (SP X aa D) X.xe s₃) X.xe s₂) X.xe s₁)) [] σ H s:=I.inn rfl I.ok.hd fun p hp=>by simpa using hp
 refine thn (hb _ _ _ pass [] s σ H D Ib h) fun f s1 q1=>?_
 have bk:∀{σ1:St}{H1:Hp},Inv (X.inn X.A X.calm (X.pn++aa) (fun e s₁=>wpAny (model X.prog X.w) X.A (noteFrame e X.env) (fun _ s₂=>wpAny (model X.prog X.w) X.A (setFlight e none) (fun _ s₃=>
   wpAny (model X.prog X.w) X.A (handleBy e X.env [.ExceptHandler (some (.Name x np)) (some nm) (b₀::suite) hpos]) (SP X aa D) X.xe s₃) X.xe s₂) X.xe s₁)) [] σ1 H1 s1->Inv X aa σ1 H1 s1:=fun {σ1 H1} J=>J.out (aa:=aa) I.ok.frames I.ok.hd fun p hp=>by simpa using hp
 cases f with
 | next=>obtain⟨σ1,H1,J1,d1⟩:=q1;exact wpAny_execs_nil ⟨σ1,H1,bk J1,d1⟩
 | ret u=>obtain⟨v,σ1,H1,J1,r1,d1⟩:=q1;exact⟨v,σ1,H1,bk J1,r1,d1⟩
 | brk=>obtain⟨σ1,H1,J1,d1⟩:=q1;exact⟨σ1,H1,bk J1,d1⟩
 | cont=>obtain⟨σ1,H1,J1,d1⟩:=q1;exact⟨σ1,H1,bk J1,d1⟩
end
end L2
namespace L2
open PySem PySem.Spec PyProof.Rows
structure ExcI (K:W.Frag) (C:Addr):Prop where
 cl:W.isClsIn K C=true
 ga:W.findIn K (.ref C) "__getattribute__"=some (some (.builtin "BaseException.__getattribute__"))
 gt:W.findIn K (.ref C) "__getattr__"=some none
 cls:W.findIn K (.ref C) "__class__"=some (some (.builtin "object.__class__"))
 ob:W.mroIn K C (.type "object")=some true
 be:W.mroIn K C (.type "BaseException")=some true
section
variable {prog:Program}{w:World}{A:Around}{E:Value->Shared->Prop}{K:W.Frag}{h:Heap}{g:Array GenState}{d:Drawn}{t:Nat}{os:OsState}{a C:Addr}{o:Obj}
theorem tI {R:Result->Shared->Prop}(X:K.In h) (F0:ExcI K C) (hx:h.get? a=some o) (hc:o.cls=.ref C) (hq:R (.ok (.ret (.ref C))) ⟨h,g,d,t,os⟩) :
  codeAny (model prog w) A (.call (.builtin "getset_descriptor.__get__") ⟨[.builtin "object.__class__",.ref a,.ref C],[]⟩) R ⟨h,g,d,t,os⟩:=by
 have hT5:(⟨h,g,d,t,os⟩:Shared).TypeIs (.builtin "object.__class__") "getset_descriptor":=F.typeOf_object_class
 have L1:=W.looks_mroIn (M:=model prog w) X F0.ob
 have hown:(".".intercalate ("object.__class__".cutAt '.').dropLast)="object":=F.owner_object_class
 refine codeAny_call_builtin F.slot_gs_get.plain F.entry_gs_get (F.slot_gs_get.check _ _ _ _ _ _ _ _ hT5 (F.args_gs_get _ _ _) ?_)
 repeat (any_goals (first|assumption|(with_reducible refine wpAny_loadPart_at hx ?_;rw[hc])|(rw[hown];refine L1.at ?_)|wp_step))
 refine⟨Code.quiet_builtin _ (by decide +kernel),codeAny_builtin F.entry_object_class ?_⟩
 repeat (any_goals (first|assumption|(with_reducible refine wpAny_loadPart_at hx ?_;rw[hc])|wp_step))
theorem oQ {tk:Tok}{Q:Fin->Shared->Prop}(X:K.In h) (F0:ExcI K C) (hx:h.get? a=some o) (hc:o.cls=.ref C) (hq:Q (.done (.ret (.ref C))) ⟨h,g,d,t,os⟩) :
  wpAny (model prog w) A (Builtin.«object.__getattribute__» ⟨[.ref a,.str "__class__" tk],[]⟩) Q E ⟨h,g,d,t,os⟩:=by
 have hT5:(⟨h,g,d,t,os⟩:Shared).TypeIs (.builtin "object.__class__") "getset_descriptor":=F.typeOf_object_class
 have L1:=W.looks_findIn (M:=model prog w) X F0.cls
 have f5:=F.typeOf_object_class
 have f6:=F.slot_gs_get.lookup
 have f7:=F.slot_gs_set.lookup
 repeat (any_goals (first|assumption|(with_reducible refine wpAny_loadPart_at hx ?_;rw[hc])|(with_reducible refine L1.at ?_)|wp_step))
 refine tI X F0 hx hc ?_
 repeat (any_goals (first|assumption|wp_step))
theorem oS {M:Model}{nameV:Value}{Q:Unit->Shared->Prop}(X:K.In h) (F0:ExcI K C) (hx:h.get? a=some o) (hc:o.cls=.ref C) (hq:Q () ⟨h,g,d,t,os⟩) :
  wpAny M A (checkBuiltinCall "BaseException.__getattribute__" ⟨[.ref a,nameV],[]⟩) Q E ⟨h,g,d,t,os⟩:=by
 have L1:=W.looks_mroIn (M:=M) X F0.be
 have hk:builtinKind "BaseException.__getattribute__"=some .slot:=by decide +kernel
 have hsp:splitId "BaseException.__getattribute__"=some ("BaseException","__getattribute__"):=by decide +kernel
 have hargs:=F.args_bexc_ga (.ref a) nameV
 simp only[checkBuiltinCall,hk,hsp]
 refine wpAny_bind ?_
 unfold isInstance
 repeat (first|(with_reducible refine wpAny_loadPart_at hx ?_;rw[hc])|(with_reducible refine L1.at ?_)|wp_step)
 exact hq
theorem uX {tk:Tok}{Q:Value->Shared->Prop}(X:K.In h) (F0:ExcI K C) (hx:h.get? a=some o) (hc:o.cls=.ref C) (hq:Q (.ref C) ⟨h,g,d,t,os⟩) :
  wpAny (model prog w) A (getAttrBy (.ref a) (.str "__class__" tk) false) Q E ⟨h,g,d,t,os⟩:=by
 have FB:Slot "ValueError" "__getattribute__" "BaseException.__getattribute__":=PySem.F.attr_ValueError.ga
 have f3:=FB.bind (.ref a)
 have L1:=W.looks_findIn (M:=model prog w) X F0.ga
 have L2:=W.looks_findIn (M:=model prog w) X F0.gt
 have hx2:(Value.builtin "BaseException.__getattribute__"==Value.builtin "object.__getattribute__")=false:=by decide +kernel
 have hx1:(onTheHeap (Value.ref C)&&Value.builtin "BaseException.__getattribute__"==Value.builtin "object.__getattribute__")=false:=by rw[hx2];exact Bool.and_false _
 repeat (any_goals (first|assumption|(with_reducible refine wpAny_loadPart_at hx ?_;rw[hc])|(with_reducible refine L1.at ?_)|(with_reducible refine L2.at ?_)|wp_step))
 refine codeAny_call_builtin FB.plain F.entry_bexc_ga (oS X F0 hx hc (oQ X F0 hx hc ?_))
 repeat (any_goals (first|assumption|wp_step))
theorem rc {Q:Option Value->Shared->Prop}(X:K.In h) (F0:ExcI K C) (hx:h.get? a=some o) (hc:o.cls=.ref C) (hq:Q (some (.ref C)) ⟨h,g,d,t+1,os⟩) :
  wpAny (model prog w) A (getAttr? (.ref a) "__class__") Q E ⟨h,g,d,t,os⟩:=by
 unfold getAttr? getAttrBy?
 repeat (any_goals (first|assumption|with_reducible apply uX X F0 hx hc|wp_step))
end
theorem wS {K:W.Frag}{a C:Addr}(F0:ExcI K C):W.KitX K (.ref a) (.ref C) (fun h=>∃oe,h.get? a=some oe∧oe.cls=.ref C) where
 ty:=fun M h _ ⟨oe,e,c⟩=>c▸(W.Looks.ld e).andThen .now
 it:=fun M h X _=>mH X F0.cl
 ne:=fun h tp dd its n sl X htp=>by
  refine Bool.eq_false_iff.mpr fun q=>?_
  have e:C=tp:=Value.ref.inj (beq_iff_eq.mp q)
  subst e
  have hc:=F0.cl
  unfold W.isClsIn W.clsIn at hc
  split at hc
  ·rename_i c' d' cd' sl' lk
   have z:=(X _ _ lk).symm.trans htp
   cases z
  ·cases hc
 ca:=fun {prog w A E Q s} X ⟨oe,e,c⟩ k=>by
  obtain⟨h,g,d,t,os⟩:=s
  exact rc X F0 e c k
inductive TyX (K:W.Frag) (H:Hp):V->Value->Prop where
 | of {x:V}{t:Value}(h:TyOf K H x t):TyX K H x t
 | tup {a:Addr}{xs:List V}(h:SqT K H a xs):TyX K H (.ref a) (.type "tuple")
 | lst {a:Addr}{xs:List V}(h:SqL K H a xs):TyX K H (.ref a) (.type "list")
 | exc {a C:Addr}(h:H a=some (gA a (.ref C))) (F0:ExcI K C):TyX K H (.ref a) (.ref C)
def EM:V->Value->Prop
 | .ty n,c=>c=.type n
 | .ref C,c=>c=.ref C
 | _,_=>False
theorem bG {X:Cx}:cm X (.builtin "isinstance") (fun xs H Q=>∃x cv t c b,xs=[x,cv]∧EM cv c∧TyX X.K H x t∧W.kitOne X.K t c=some b∧Q (.bl b) H):=by
 intro aa s σ H xs us Q I r h
 obtain⟨x,cv,t,c,b,rfl,hcv,ty,e,q⟩:=h
 obtain⟨u,v,rfl,ru,rv⟩:=r.two
 have hv:v=c:=by
  cases cv with
  | ty n=>exact(show v=_ from rv).trans (show c=_ from hcv).symm
  | ref C=>exact(show v=_ from rv).trans (show c=_ from hcv).symm
  | _=>exact False.elim hcv
 subst hv
 have fin:∀tk,EP X aa σ Q (.bool b) { s with toks:=tk }:=fun tk=>⟨.bl b,H,I.tok tk,rfl,q⟩
 cases ty with
 | of ty=>exact uN I ru ty e fin
 | @tup a xs ht=>
  cases (show u=Value.ref a from ru)
  obtain⟨its,_,p,_⟩:=I.tuple ht
  obtain⟨o,h1,h2,_⟩:=p
  exact W.kia_one W.kitx_tuple I.kIn ⟨o,h1,h2⟩ e (fun z=>nomatch z) fin
 | @lst a xs ht=>
  cases (show u=Value.ref a from ru)
  obtain⟨its,_,p,_⟩:=I.list ht
  obtain⟨o,h1,h2,_⟩:=p.isList
  exact W.kia_one W.kitx_list I.kIn ⟨o,h1,h2⟩ e (fun z=>nomatch z) fin
 | @exc a C ha F0=>
  cases (show u=Value.ref a from ru)
  obtain⟨⟨oe,vs,h1,h2,_⟩,_⟩:=(show aS X.prog X.w H s.heap a (gA a (.ref C)) from I.hok a _ ha)
  exact W.kia_one (wS F0) I.kIn ⟨oe,h1,h2⟩ e (fun z=>nomatch z) fin
theorem AE {K:W.Frag}:W.kitOne K (.type "int") (.type "int")=some true:=rfl
theorem AF {K:W.Frag}:W.kitOne K (.type "int") (.type "bool")=some false:=by kernel_rfl
theorem kL {K:W.Frag}:W.kitOne K (.type "tuple") (.type "tuple")=some true:=rfl
theorem GZ {K:W.Frag}:W.kitOne K (.type "bool") (.type "bool")=some true:=rfl
theorem AG {K:W.Frag}:W.kitOne K (.type "list") (.type "list")=some true:=rfl
structure ClsI (K:W.Frag) (C:Addr):Prop where
 cl:W.isClsIn K C=true
 ty:W.typeIn K (.ref C)=some (.type "type")
theorem y4 {K:W.Frag}{C D:Addr}{b:Bool}(c:ClsI K D) (hm:W.mroIn K C (.ref D)=some b):W.kitOne K (.ref C) (.ref D)=some (if C=D then true else b):=by
 unfold W.kitOne
 by_cases z:C=D
 ·subst z
  rw[if_pos (by simp),if_pos rfl]
 ·rw[if_neg (by simpa using z),if_neg z]
  unfold W.kitCls
  have h1:(W.clsIn K D).isSome=true:=c.cl
  have h2:(W.typeIn K (.ref D)==some (.type "type"))=true:=by rw[c.ty];rfl
  simp only[h1,h2,Bool.and_self,if_true]
  exact hm
theorem uY {K:W.Frag}{C:Addr}{b:Bool}(hm:W.mroIn K C (.type "ValueError")=some b):W.kitOne K (.ref C) (.type "ValueError")=some b:=by
 unfold W.kitOne
 rw[if_neg (by simp)]
 unfold W.kitCls
 have h1:W.kitMeta "ValueError"=true:=by decide +kernel
 simp only[h1,if_true]
 exact hm
end L2
namespace L2
open PySem PySem.Spec PyProof.Rows
section
variable {prog:Program}{w:World}{A:Around}{E:Value->Shared->Prop}{s:Shared}{q p:Addr}{k:Nat}{its:Array Value}{Q:Value->Shared->Prop}
end
section
variable {X:Cx}
end
end L2
namespace Mx
def aY (n:Nat):List Int:=(List.range n).map fun(i:Nat)=>(i:Int)
theorem cV (n:Nat):(aY n).length=n:=by simp[aY]
theorem cL {n:Nat}{x:Int}:x∈aY n↔0≤x∧x<n:=by
 simp only[aY,List.mem_map,List.mem_range]
 constructor
 ·rintro⟨i,hi,rfl⟩;lia
 ·rintro⟨h0,h1⟩;exact⟨x.toNat,by lia,by lia⟩
theorem kM (n:Nat):(aY n).Nodup:=by
 unfold aY List.Nodup
 rw[List.pairwise_map]
 exact(List.nodup_range (n:=n)).imp (fun h e=>h (by lia))
theorem rd (n:Nat):(aY n).Pairwise (·≤·):=by
 unfold aY
 rw[List.pairwise_map]
 exact(List.pairwise_lt_range (n:=n)).imp (fun h=>by lia)
def jt (l:List Int):List Int:=l.mergeSort fun a b=>decide (a≤b)
theorem kN (l:List Int):(jt l).Perm l:=List.mergeSort_perm l _
theorem oU (l:List Int):(jt l).Pairwise (·≤·):=by
 have h:=List.pairwise_mergeSort (le:=fun a b:Int=>decide (a≤b)) (by intro a b c;simp;lia) (by intro a b;simp;lia) l
 exact h.imp (fun h=>by simpa using h)
theorem oV {l ys:List Int}(p:ys.Perm l) (s:ys.Pairwise (·≤·)):ys=jt l:=
 List.Perm.eq_of_pairwise (fun a b _ _ h1 h2=>Int.le_antisymm h1 h2) s (oU l) (p.trans (kN l).symm)
def Ord (l:List Int):Prop:=jt l=aY l.length
theorem Ord.perm {l:List Int}(h:Ord l):l.Perm (aY l.length):=by
 have p:=(kN l).symm
 rw[h] at p
 exact p
theorem Ord.mem {l:List Int}(h:Ord l) {x:Int}(hx:x∈l):0≤x∧x<l.length:=cL.mp (h.perm.mem_iff.mp hx)
end Mx
namespace L2
open PySem PySem.Spec PyProof.Rows
structure Df (P:Program) (w:World) (K:W.Frag) (mg:Str->Option Value) (base:Heap) (CX:CXT) (k:Nat) (x:Str) (ps:List Str) (sp:Sp):Prop where
 ex:∃f fd,FnOk P w K mg base CX k f fd ps sp∧cC K fd ps []∧W.keepIn K (.ref f)=true∧mg x=some (.ref f)
def AH (sp:Sp) (E:St->XK) (t:TA):TE:=fun σ H Q=>t σ H fun vs H1=>sp vs H1 Q (E σ)
theorem aF {X:Cx}{CX:CXT}{k:Nat}{x:Str}{ps:List Str}{sp:Sp}{E:St->XK}{p pos:Pos}{e:Expr}{es:List Expr}{t:TA}(D:Df X.prog X.w X.K X.mg X.base CX k x ps sp) (hr:Room k X.A) (hg:Gl X x) (hx:bI CX X E) (ha:PA X (e::es) t)
  (hdb:(x==("__debug__":Str))=false:=by decide) (he:starEach (e::es) X.env=(false,eval e X.env)::starEach es X.env:=by rfl) (hpl:(backTo pos (starEach es X.env)).any (·.1)=false:=by rfl) :
  PE X (.Call (.Name x p) (e::es) [] pos) (AH sp E t):=by
 obtain⟨f,fd,F,b,kp,m⟩:=D.ex
 intro aa s σ H Q I h
 refine wM (dvs:=[]) (ds:=[]) F hr hg m kp b .nil hx ha hdb he hpl aa s σ H Q I ?_
 have e1:(fun(vs:List V) H1=>sp (vs++[]) H1 Q (E σ))=fun vs H1=>sp vs H1 Q (E σ):=by funext vs H1;rw[List.append_nil]
 show t σ H (fun vs H1=>sp (vs++[]) H1 Q (E σ))
 rw[e1]
 exact h
theorem kO {P:Program}{w:World}{X:Cx}:bI (CX1 P w) X (fun _ _ _ _=>False):=fun _ _ _ _ _ _ _ ⟨_,_,_,_,_,_,_,_,_,_,_,z⟩=>z.elim
theorem cM:bootBuiltins "isinstance"=some (.builtin "isinstance"):=by decide +kernel
theorem nY:bootBuiltins "int"=some (.type "int"):=by decide +kernel
theorem AI:bootBuiltins "bool"=some (.type "bool"):=by decide +kernel
theorem eE:bootBuiltins "tuple"=some (.type "tuple"):=by decide +kernel
theorem kP:bootBuiltins "list"=some (.type "list"):=by decide +kernel
theorem rL:bootBuiltins "range"=some (.type "range"):=by decide +kernel
theorem oW:bootBuiltins "sorted"=some (.builtin "sorted"):=by decide +kernel
theorem nZ:bootBuiltins "all"=some (.builtin "all"):=by decide +kernel
theorem bM:bootBuiltins "len"=some (.builtin "len"):=by decide +kernel
theorem ar.seqT {K:W.Frag}{H H':Hp}{a:Addr}{xs:List V}(e:ar H H') (h:SqT K H a xs):SqT K H' a xs:=by
 rcases h with(h|⟨o,h⟩)|h
 ·exact .inl (.inl (e _ _ h))
 ·exact .inl (.inr ⟨o,e _ _ h⟩)
 ·exact .inr h
theorem ak {H:Hp}{p:Addr}(h:H p=none) (o:HO):ar H (upd H p o):=fun b u q=>by rw[ap (au q h)];exact q
theorem SqL.up {K:W.Frag}{H:Hp}{p:Addr}{xs:List V}:SqL K (upd H p (.lst xs)) p xs:=.inl (.inl ag)
theorem SqT.up {K:W.Frag}{H:Hp}{p:Addr}{xs:List V}:SqT K (upd H p (.tup xs)) p xs:=.inl (.inl ag)
end L2
namespace Ord
open PySem L2 Mx
def top (i:Nat):Stmt:=PySem.Challenge.pw_ordernest_k60_texts.main.body.getD i (.Pass ⟨0,0,0,0⟩)
abbrev oX:Stmt:=top 11
abbrev oY:Stmt:=top 12
abbrev oZ:Stmt:=top 13
abbrev n6:Stmt:=top 14
structure Txt (K:W.Frag) (mg:Str->Option Value) (CO:Addr):Prop where
 bo:OwnX K mg "BadOrder" CO
 most:∃t,mg "MOST_THINGS"=some (.int 8 t)
 isi:mg "isinstance"=none
 int:mg "int"=none
 bool:mg "bool"=none
 tuple:mg "tuple"=none
 list:mg "list"=none
 range:mg "range"=none
 sorted:mg "sorted"=none
 all:mg "all"=none
 len:mg "len"=none
 enum:mg "enumerate"=none
section
variable {P:Program}{w:World}{K:W.Frag}{mg:Str->Option Value}{base:Heap}{CO:Addr}
def gO:Sp:=fun vs H Q _=>∃i:Int,vs=[.int i]∧Q (.bl true) H
theorem y7:FnScope ["value"] ["value"] (am oX):={}
theorem wT {f:Addr}{fd:FuncData}(F:Fun K "is_whole" "is_whole" oX f fd) (T:Txt K mg CO):FnOk P w K mg base CX0 1 f fd ["value"] gO:=by
 refine F.ok y7 (fun vs H Q E h=>?_) (fun cdv A outer s H vs Q E hr h=>?_)
 ·obtain⟨i,rfl,_⟩:=h
  rfl
 obtain⟨i,rfl,q⟩:=h
 refine⟨_,ai (aL (fO (aw bG rfl T.isi cM (ac (pv 0) (ac (eA (v:=.ty "int") rfl T.int nY rfl) ae)))
  (iP (Am (aw bG rfl T.isi cM (ac (pv 0) (ac (eA (v:=.ty "bool") rfl T.bool AI rfl) ae))))))),?_⟩
 refine⟨_,rfl,_,_,_,_,_,rfl,rfl,.of (.int i),AE,_,rfl,aG ?_⟩
 exact⟨_,rfl,_,_,_,_,_,rfl,rfl,.of (.int i),AF,_,rfl,q⟩
def lQ:Sp:=fun vs H Q _=>∃i:Int,vs=[.int i]∧Q (.bl (decide (1≤i∧i≤8))) H
theorem y8:FnScope ["many"] ["many"] (am oY):={}
theorem wU {f:Addr}{fd:FuncData}(F:Fun K "is_count" "is_count" oY f fd) (T:Txt K mg CO) (W:Df P w K mg base CX0 1 "is_whole" ["value"] gO):FnOk P w K mg base CX0 2 f fd ["many"] lQ:=by
 refine F.ok y8 (fun vs H Q E h=>?_) (fun cdv A outer s H vs Q E hr h=>?_)
 ·obtain⟨i,rfl,_⟩:=h
  rfl
 obtain⟨i,rfl,q⟩:=h
 obtain⟨t8,m8⟩:=T.most
 refine⟨_,ai (aL (fO (aF W hr rfl pS (ac (pv 0) ae)) (iP (wA kC kC ao (pv 0) (bj (v:=.int 8) rfl m8 ⟨t8,rfl⟩))))),?_⟩
 refine⟨_,rfl,i,rfl,_,rfl,aG ?_⟩
 refine⟨_,rfl,1,i,rfl,rfl,_,rfl,?_⟩
 by_cases h1:1≤i
 ·rw[decide_eq_true h1]
  refine aG ⟨i,8,rfl,rfl,?_⟩
  have e:decide (i≤8)=decide (1≤i∧i≤8):=by simp[h1]
  show Q (V.bl (decide (i≤8))) H
  rw[e]
  exact q
 ·rw[decide_eq_false h1]
  refine aO ?_
  have e:decide (1≤i∧i≤8)=false:=by simp[h1]
  rw[e] at q
  exact q
def Fit (i:Int):Prop:=i.natAbs.log2<1900
theorem gh {i:Int}(h1:-(2 ^ 64)<i) (h2:i<2 ^ 64):Fit i:=by
 have:i.natAbs<2 ^ 64:=by lia
 have h3:i.natAbs.log2<65:=by
  by_cases z:i.natAbs=0
  ·rw[z];decide
  ·have:=(Nat.log2_lt z (k:=64)).mpr this
   lia
 unfold Fit
 lia
def lR (CO:Addr):Sp:=fun vs H Q E=>∃i:Int,vs=[.int i]∧Fit i∧(if 1≤i∧i≤8 then Q .non H else E (.ref CO) none H)
theorem y9:FnScope ["many"] ["many"] (am oZ):={}
theorem wV {f:Addr}{fd:FuncData}(F:Fun K "look_count" "look_count" oZ f fd) (T:Txt K mg CO) (W:Df P w K mg base CX0 2 "is_count" ["many"] lQ):FnOk P w K mg base (CX1 P w) 3 f fd ["many"] (lR CO):=by
 refine F.okX y9 (fun vs H Q E h=>?_) (fun X cdv A outer s H vs Q E hX hp hra hr h=>?_)
 ·obtain⟨i,rfl,_⟩:=h
  rfl
 obtain⟨i,rfl,fit,q⟩:=h
 obtain⟨t8,m8⟩:=T.most
 subst hX
 refine⟨_,ai (aQ (bV (cA (aF W hr rfl pS (ac (pv 0) ae))))
  (ai (bp rfl rfl T.bo hra (ac (eX (bh (yY (pv 0)) (bh (cy (k:=100) (by decide)) (bh (gN (bj (v:=.int 8) rfl m8 ⟨t8,rfl⟩)) fT))) (by decide)) ae))) aB),?_⟩
 refine⟨_,rfl,i,rfl,_,rfl,?_⟩
 by_cases c:1≤i∧i≤8
 ·rw[decide_eq_true c]
  refine aO ?_
  rw[if_pos c] at q
  exact q
 ·rw[decide_eq_false c]
  refine aG ?_
  rw[if_neg c] at q
  exact⟨⟨⟨_,rfl,rfl,i,rfl,fit⟩,trivial,⟨rfl,8,rfl,by decide⟩,trivial⟩,fun x=>⟨by show 1≤sizeLine;decide,q⟩⟩
end
end Ord
namespace L2
open PySem PySem.Spec PyProof.Rows
theorem dh (ns:List Int):(ns.map V.int).all bZ=true:=by simp[List.all_eq_true,bZ]
theorem fz (n:Nat):ig 0 n=(Mx.aY n).map V.int:=by simp[ig,Mx.aY]
theorem za {ns:List Int}{i:Nat}{x:V}(h:(ns.map V.int)[i]?=some x):∃z,x=.int z∧ns[i]?=some z:=by
 rw[List.getElem?_map] at h
 cases e:ns[i]? with
 | none=>rw[e] at h;cases h
 | some z=>rw[e] at h;exact⟨z,(Option.some.inj h).symm,rfl⟩
end L2
namespace Ord
open PySem L2 Mx
section
variable {P:Program}{w:World}{K:W.Frag}{mg:Str->Option Value}{base:Heap}{CO:Addr}
def o0 (n:Int) (ns:List Int):Prop:=1≤n∧n≤8∧(ns.length:Int)=n∧Mx.Ord ns
structure Tp (K:W.Frag) (H:Hp) (a:Addr) (ns:List Int):Prop where
 sq:SqT K H a (ns.map V.int)
 len:ns.length≤60
 fit:∀x∈ns,Fit x
def uZ (K:W.Frag) (CO:Addr):Sp:=fun vs H Q E=>∃(n:Int) (a:Addr) (ns:List Int),vs=[.int n,.ref a]∧Fit n∧Tp K H a ns∧
 (o0 n ns->∀H',ar H H'->Q .non H')∧(¬o0 n ns->∀H',ar H H'->E (.ref CO) none H')
theorem u3:FnScope ["many","order"] ["many","order"] (am n6):={}
theorem zd {f:Addr}{fd:FuncData}(F:Fun K "look_order" "look_order" n6 f fd) (T:Txt K mg CO) (WC:Df P w K mg base (CX1 P w) 3 "look_count" ["many"] (lR CO)) (WW:Df P w K mg base CX0 1 "is_whole" ["value"] gO) :
  FnOk P w K mg base (CX1 P w) 4 f fd ["many","order"] (uZ K CO):=by
 refine F.okX u3 (fun vs H Q E h=>?_) (fun X cdv A outer s H vs Q E hX hp hra hr h=>?_)
 ·obtain⟨n,a,ns,rfl,_⟩:=h
  rfl
 obtain⟨n,a,ns,rfl,fit,tp,qg,qb⟩:=h
 subst hX
 refine⟨_,af (bq (aF WC hr rfl hp (ac (pv 0) ae)))
  (af (aQ (PW.pt (fG (bV (cA (aw bG rfl T.isi cM (ac (pv 1) (ac (eA (v:=.ty "tuple") rfl T.tuple eE rfl) ae)))))
    (fN (aI fm (aw aN rfl T.len bM (ac (pv 1) ae)) (pv 0) (aM _)))))
   (ai (bp rfl rfl T.bo hra (ac (eX (bh (lP hr (pv 1)) (bh (cy (k:=100) (by decide)) (bh (gN (pv 0)) (bh (cy (k:=100) (by decide)) fT)))) (by decide)) ae))) aB)
  (af (aQ (bV (cA (aw (im rfl) rfl T.all nZ (ac (eB rfl (show CScope (am n6) ["many","order"] _ _ from by constructor <;> decide +kernel) (gI (pv 1)) (fun _ _ _ _ _ _=>cw)
    (fun cl C s₂ H₂ fp aa=>aF WW (hr.mono (by decide)) rfl pS (ac (pv 0) ae)) u3.nd) ae))))
   (ai (bp rfl rfl T.bo hra (ac (eX (bh (lP hr (pv 1)) (bh (cy (k:=100) (by decide)) fT)) (by decide)) ae))) aB)
  (ai (aQ (aI (oM hr.units0) (aw oO rfl T.sorted oW (ac (pv 1) ae))
    (aZ (iK rfl) rfl T.list kP (ac (aZ mG rfl T.range rL (ac (pv 0) ae)) ae)) (aM _))
   (ai (bp rfl rfl T.bo hra (ac (eX (bh (lP hr (pv 1)) (bh (cy (k:=100) (by decide)) (bh (gN (pv 0)) (bh (cy (k:=100) (by decide)) fT)))) (by decide)) ae))) aB)))),?_⟩
 refine⟨_,rfl,n,rfl,fit,?_⟩
 by_cases c:1≤n∧n≤8
 case neg=>
  rw[if_neg c]
  exact qb (fun g=>c ⟨g.1,g.2.1⟩) H (ar.refl H)
 rw[if_pos c]
 have len60:=tp.len
 have hl:(ns.map V.int).length=ns.length:=List.length_map _
 refine⟨_,rfl,_,_,_,_,_,rfl,rfl,.tup tp.sq,kL,_,rfl,aO ?_⟩
 refine⟨_,rfl,a,_,rfl,.inr tp.sq,_,rfl,rfl,_,rfl,?_⟩
 have isT1:∀H',ar H H'->isT K (ox 1) [some (.int n),some (.ref a)] H':=fun H' e=>⟨_,rfl,rfl,a,ns,rfl,e.seqT tp.sq,by lia,tp.fit⟩
 by_cases c2:(ns.length:Int)=n
 case neg=>
  have e1:decide (V.int ((ns.map V.int).length:Nat)=V.int n)=false:=by
   rw[hl]
   exact decide_eq_false fun z=>c2 (V.int.inj z)
  rw[e1]
  refine aG ?_
  exact⟨⟨isT1 H (ar.refl H),trivial,⟨_,rfl,rfl,n,rfl,fit⟩,trivial,trivial⟩,fun x=>⟨by show 1≤sizeLine;decide,qb (fun g=>c2 g.2.2.1) H (ar.refl H)⟩⟩
 have e1:decide (V.int ((ns.map V.int).length:Nat)=V.int n)=true:=by
  rw[hl]
  exact decide_eq_true (congrArg V.int c2)
 rw[e1]
 refine aO ?_
 refine⟨_,rfl,a,rfl,⟨_,tp.sq⟩,oJ (K:=K) (a:=a) (xs:=ns.map V.int) (fun i ys H'=>H'=H∧ys=(List.replicate i true).map V.bl) ⟨rfl,rfl⟩ ?_ (by rw[hl,sizeLine_eq];lia) ?_ ?_⟩
 ·rintro i ys H' hi ⟨rfl,rfl⟩
  exact⟨tp.sq,by simp⟩
 ·rintro i x ys H' hx ⟨rfl,rfl⟩
  obtain⟨z,rfl,_⟩:=za hx
  refine goT ?_
  refine aG ?_
  refine⟨_,rfl,z,rfl,rfl,?_⟩
  simp[List.replicate_succ',List.map_append]
 rintro ys H' p ⟨rfl,rfl⟩ hp0
 refine⟨p,List.replicate (ns.map V.int).length true,rfl,SqL.up,_,rfl,?_⟩
 have e2:(List.replicate (ns.map V.int).length true).all id=true:=by simp[List.all_eq_true]
 rw[e2]
 refine aO ?_
 have s1:ar H' (upd H' p (.lst ((List.replicate (ns.map V.int).length true).map V.bl))):=ak hp0 _
 refine⟨_,rfl,a,ns,rfl,s1.seqT tp.sq,by lia,fun l ns' hl0 hperm hsort=>?_⟩
 have s2:=s1.trans (ak hl0 (.lst (ns'.map V.int)))
 refine⟨_,rfl,n,rfl,fun r hr0=>⟨r,0,n,rfl,ag,by decide,by decide,by lia,by lia,by lia,fun l2 hl2=>?_⟩⟩
 have s3:=s2.trans (ak hr0 (.rng 0 n))
 have s4:=s3.trans (ak hl2 (.lst (ig 0 (n-0).toNat)))
 have n1:l≠l2:=au (by rw[ap (au ag hr0)];exact ag) hl2
 have n2:l≠r:=au ag hr0
 refine⟨l,l2,ns'.map V.int,_,rfl,rfl,.inl (.inl (by rw[ap n1,ap n2];exact ag)),SqL.up,dh _,by rw[fz];exact dh _,_,rfl,?_⟩
 have e3:ns'=Mx.jt ns:=Mx.oV hperm hsort
 have e4:(n-0).toNat=ns.length:=by lia
 rw[e4,fz,iV,e3]
 by_cases g:Mx.jt ns=Mx.aY ns.length
 ·rw[decide_eq_true g]
  refine aO ?_
  refine qg ⟨c.1,c.2,c2,g⟩ _ ?_
  rw[←e3,←fz,←e4]
  exact s4
 ·rw[decide_eq_false g]
  refine aG ?_
  have s4':=s4
  rw[e4,fz,e3] at s4'
  exact⟨⟨isT1 _ s4',trivial,⟨_,rfl,rfl,n,rfl,fit⟩,trivial,trivial⟩,fun x=>⟨by show 1≤sizeLine;decide,qb (fun gg=>g gg.2.2.2) _ s4'⟩⟩
end
end Ord
namespace L2
open PySem PySem.Spec PyProof.Rows
theorem bR {α β:Type}{F:α->β->Prop}:∀{l₁:List α}{l₂:List β}{i:Nat}{a:α},Paired F l₁ l₂->l₁[i]?=some a->∃b,l₂[i]?=some b∧F a b
 | _,_,_,_,.nil,e=>by simp at e
 | _,_,0,_,.cons h _,e=>by simp at e;subst e;exact⟨_,rfl,h⟩
 | _,_,i+1,a,.cons _ t,e=>by
  obtain⟨b,h1,h2⟩:=bR (i:=i) (a:=a) t (by simpa using e)
  exact⟨b,by simpa using h1,h2⟩
theorem io {α β:Type}{F:α->β->Prop}:∀{l₁:List α}{l₂:List β}{i:Nat}{b:β},Paired F l₁ l₂->l₂[i]?=some b->∃a,l₁[i]?=some a∧F a b
 | _,_,_,_,.nil,e=>by simp at e
 | _,_,0,_,.cons h _,e=>by simp at e;subst e;exact⟨_,rfl,h⟩
 | _,_,i+1,b,.cons _ t,e=>by
  obtain⟨a,h1,h2⟩:=io (i:=i) (b:=b) t (by simpa using e)
  exact⟨a,by simpa using h1,h2⟩
theorem aJ {α β:Type}{F G:α->β->Prop}(f:∀a b,F a b->G a b):∀{l₁:List α}{l₂:List β},Paired F l₁ l₂->Paired G l₁ l₂
 | _,_,.nil=>.nil
 | _,_,.cons h t=>.cons (f _ _ h) (aJ f t)
theorem cN {α β:Type}{F:α->β->Prop}:∀{l₁ m₁:List α}{l₂ m₂:List β},Paired F l₁ l₂->Paired F m₁ m₂->Paired F (l₁++m₁) (l₂++m₂)
 | _,_,_,_,.nil,s=>s
 | _,_,_,_,.cons h t,s=>.cons h (cN t s)
theorem tJ {α β:Type}{F:α->β->Prop}:∀{l₁:List α}{l₂:List β}(n:Nat),Paired F l₁ l₂->Paired F (l₁.take n) (l₂.take n)
 | _,_,0,_=>.nil
 | _,_,_+1,.nil=>.nil
 | _,_,n+1,.cons h t=>.cons h (tJ n t)
theorem tK {α β:Type}{F:α->β->Prop}:∀{l₁:List α}{l₂:List β}(n:Nat),Paired F l₁ l₂->Paired F (l₁.drop n) (l₂.drop n)
 | _,_,0,h=>h
 | _,_,_+1,.nil=>.nil
 | _,_,n+1,.cons _ t=>tK n t
theorem pfn {α β:Type}{F:α->β->Prop}(f:∀a b c,F a b->F a c->b=c):∀{l:List α}{m n:List β},Paired F l m->Paired F l n->m=n
 | _,_,_,.nil,.nil=>rfl
 | _,_,_,.cons h t,.cons h' t'=>by rw[f _ _ _ h h',pfn f t t']
theorem ju {α:Type} [DecidableEq α] {as bs:List α}(hl:as.length=bs.length):(List.range as.length).all (fun j=>decide (as[j]?=bs[j]?))=decide (as=bs):=by
 by_cases h:as=bs
 ·subst h
  rw[decide_eq_true rfl,List.all_eq_true]
  intro j _
  exact decide_eq_true rfl
 ·rw[decide_eq_false h]
  cases e:(List.range as.length).all (fun j=>decide (as[j]?=bs[j]?)) with
  | false=>rfl
  | true=>
   rw[List.all_eq_true] at e
   refine absurd (List.ext_getElem? fun j=>?_) h
   by_cases hj:j<as.length
   ·exact of_decide_eq_true (e j (List.mem_range.mpr hj))
   ·rw[List.getElem?_eq_none (by lia),List.getElem?_eq_none (by lia)]
structure Dk (α:Type) [DecidableEq α] where
 rep:W.Frag->Hp->V->α->Prop
 dep:Nat
 mono:∀{K:W.Frag}{H H':Hp}{x:V}{a:α},ar H H'->rep K H x a->rep K H' x a
 fn:∀{X:Cx}{aa:List (Addr×Obj)}{σ:St}{H:Hp}{s:Shared}{x:V}{a b:α},Inv X aa σ H s->rep X.K H x a->rep X.K H x b->a=b
 eqAt:∀{X:Cx}{aa:List (Addr×Obj)}{σ:St}{H:Hp}{s:Shared}{A:Around}{x y:V}{a b:α}{u v:Value},Inv X aa σ H s->A.units+dep<cLine->rep X.K H x a->rep X.K H y b->az x u->az y v->SeqAt.EqAt A s u v (decide (a=b))
 rcAt:∀{X:Cx}{aa:List (Addr×Obj)}{σ:St}{H:Hp}{s:Shared}{A:Around}{x y:V}{a b:α}{u v:Value},Inv X aa σ H s->A.units+dep<cLine->rep X.K H x a->rep X.K H y b->az x u->az y v->SeqAt.RcAt A s u v (decide (a=b))
 neAt:∀{X:Cx}{aa:List (Addr×Obj)}{σ:St}{H:Hp}{s:Shared}{A:Around}{x y:V}{a b:α}{u v:Value},Inv X aa σ H s->A.units+dep<cLine->rep X.K H x a->rep X.K H y b->az x u->az y v->SeqAt.RcNeAt A s u v (!decide (a=b))
theorem gP {i j:Int}:(i==j)=decide (i=j):=by
 by_cases h:i=j
 ·subst h;simp
 ·rw[decide_eq_false h];simpa using h
def tL:Dk Int where
 rep:=fun _ _ x a=>x=.int a
 dep:=0
 mono:=fun _ h=>h
 fn:=fun _ h1 h2=>V.int.inj (h1.symm.trans h2)
 eqAt:=fun _ _ h1 h2 r1 r2=>by
  subst h1 h2
  obtain⟨t,rfl⟩:=r1
  obtain⟨t',rfl⟩:=r2
  rw[←gP]
  exact SeqAt.EqAt.int_int _ _ _ _
 rcAt:=fun _ _ h1 h2 r1 r2=>by
  subst h1 h2
  obtain⟨t,rfl⟩:=r1
  obtain⟨t',rfl⟩:=r2
  rw[←gP]
  exact SeqAt.RcAt.int_int _ _ _ _
 neAt:=fun _ _ h1 h2 r1 r2=>by
  subst h1 h2
  obtain⟨t,rfl⟩:=r1
  obtain⟨t',rfl⟩:=r2
  rw[←gP]
  exact SeqAt.RcNeAt.int_int _ _ _ _
section
variable {α:Type} [DecidableEq α]
theorem eY (k:Dk α) {X:Cx}{aa:List (Addr×Obj)}{σ:St}{H:Hp}{s:Shared}{A:Around}{xs ys:List V}{as bs:List α}{us vs:List Value}(I:Inv X aa σ H s) (hu:A.units+k.dep<cLine)
  (p:Paired (k.rep X.K H) xs as) (q:Paired (k.rep X.K H) ys bs) (r1:av xs us) (r2:av ys vs) :
  ∀j (h1:j<us.toArray.size) (h2:j<vs.toArray.size),SeqAt.EqAt A s us.toArray[j] vs.toArray[j] (decide (as[j]?=bs[j]?)):=by
 intro j h1 h2
 have l1:=r1.length
 have l2:=r2.length
 have h1':j<us.length:=by simpa using h1
 have h2':j<vs.length:=by simpa using h2
 obtain⟨u,e1,q1⟩:=r1.get (i:=j) (x:=xs[j]'(by lia)) (by simp)
 obtain⟨v,e2,q2⟩:=r2.get (i:=j) (x:=ys[j]'(by lia)) (by simp)
 have e1':us.toArray[j]=u:=by
  have:=(List.getElem?_eq_some_iff.mp e1).2
  simpa using this
 have e2':vs.toArray[j]=v:=by
  have:=(List.getElem?_eq_some_iff.mp e2).2
  simpa using this
 obtain⟨a,ea,ra⟩:=bR (i:=j) (a:=xs[j]'(by lia)) p (by simp)
 obtain⟨b,eb,rb⟩:=bR (i:=j) (a:=ys[j]'(by lia)) q (by simp)
 rw[e1',e2',ea,eb]
 have e3:decide (some a=some b)=decide (a=b):=by
  by_cases h:a=b
  ·subst h;simp
  ·simp[h]
 rw[e3]
 exact k.eqAt I hu ra rb q1 q2
theorem gQ {as bs:List α}{n m:Nat}(hn:n=as.length) (hm:m=bs.length):((List.range (min n m)).all (fun j=>decide (as[j]?=bs[j]?))&&n==m)=decide (as=bs):=by
 subst hn hm
 by_cases h:as.length=bs.length
 ·rw[h,Nat.min_self,←h,ju h]
  simp[h]
 ·have:(as.length==bs.length)=false:=by simpa using h
  rw[this,Bool.and_false,decide_eq_false]
  rintro rfl
  exact h rfl
def AJ (k:Dk α):Dk (List α) where
 rep:=fun K H x as=>∃p xs,x=.ref p∧SqT K H p xs∧Paired (k.rep K H) xs as
 dep:=k.dep+1
 mono:=fun s ⟨p,xs,e,q,r⟩=>⟨p,xs,e,by
  rcases q with(h|⟨o,h⟩)|h
  ·exact .inl (.inl (s _ _ h))
  ·exact .inl (.inr ⟨o,s _ _ h⟩)
  ·exact .inr h,aJ (fun _ _ z=>k.mono s z) r⟩
 fn:=fun I ⟨p,xs,e,q,r⟩ ⟨p',xs',e',q',r'⟩=>by
  rw[e] at e'
  cases e'
  have:=I.tuple_inj q q'
  subst this
  exact pfn (F:=k.rep _ _) (fun _ _ _ h1 h2=>k.fn I h1 h2) r r'
 eqAt:=fun {X aa σ H s A x y a b u v} I hu ⟨p,xs,e,q,r⟩ ⟨p',xs',e',q',r'⟩ rx ry=>by
  subst e e'
  cases rx
  cases ry
  by_cases hp:p=p'
  ·subst hp
   have:=I.tuple_inj q q'
   subst this
   have:=pfn (F:=k.rep _ _) (fun _ _ _ h1 h2=>k.fn I h1 h2) r r'
   subst this
   rw[decide_eq_true rfl]
   exact SeqAt.EqAt.same _
  ·obtain⟨its,v1,t1,_⟩:=I.tuple q
   obtain⟨its',v2,t2,_⟩:=I.tuple q'
   refine SeqAt.EqAt.of_refs hp ?_
   have h:=SeqAt.RcAt.tuples (A:=A) (e:=fun j=>decide (a[j]?=b[j]?)) t1 t2 (by lia) (eY k I (by show A.units+1+k.dep<cLine;lia) r r' v1 v2)
   rw[gQ (by rw[List.size_toArray,←v1.length,r.length]) (by rw[List.size_toArray,←v2.length,r'.length])] at h
   exact h
 rcAt:=fun {X aa σ H s A x y a b u v} I hu ⟨p,xs,e,q,r⟩ ⟨p',xs',e',q',r'⟩ rx ry=>by
  subst e e'
  cases rx
  cases ry
  obtain⟨its,v1,t1,_⟩:=I.tuple q
  obtain⟨its',v2,t2,_⟩:=I.tuple q'
  have h:=SeqAt.RcAt.tuples (A:=A) (e:=fun j=>decide (a[j]?=b[j]?)) t1 t2 (by lia) (eY k I (by show A.units+1+k.dep<cLine;lia) r r' v1 v2)
  rw[gQ (by rw[List.size_toArray,←v1.length,r.length]) (by rw[List.size_toArray,←v2.length,r'.length])] at h
  exact h
 neAt:=fun {X aa σ H s A x y a b u v} I hu ⟨p,xs,e,q,r⟩ ⟨p',xs',e',q',r'⟩ rx ry=>by
  subst e e'
  cases rx
  cases ry
  obtain⟨its,v1,t1,_⟩:=I.tuple q
  obtain⟨its',v2,t2,_⟩:=I.tuple q'
  have h:=SeqAt.RcNeAt.tuples (A:=A) (e:=fun j=>decide (a[j]?=b[j]?)) t1 t2 (by lia) (eY k I (by show A.units+1+k.dep<cLine;lia) r r' v1 v2)
  rw[gQ (by rw[List.size_toArray,←v1.length,r.length]) (by rw[List.size_toArray,←v2.length,r'.length])] at h
  exact h
def tM (k:Dk α):Dk (List α) where
 rep:=fun K H x as=>∃p xs,x=.ref p∧SqL K H p xs∧Paired (k.rep K H) xs as
 dep:=k.dep+1
 mono:=fun s ⟨p,xs,e,q,r⟩=>⟨p,xs,e,by
  rcases q with(h|⟨o,h⟩)|h
  ·exact .inl (.inl (s _ _ h))
  ·exact .inl (.inr ⟨o,s _ _ h⟩)
  ·exact .inr h,aJ (fun _ _ z=>k.mono s z) r⟩
 fn:=fun I ⟨p,xs,e,q,r⟩ ⟨p',xs',e',q',r'⟩=>by
  rw[e] at e'
  cases e'
  have:=I.list_inj q q'
  subst this
  exact pfn (F:=k.rep _ _) (fun _ _ _ h1 h2=>k.fn I h1 h2) r r'
 eqAt:=fun {X aa σ H s A x y a b u v} I hu ⟨p,xs,e,q,r⟩ ⟨p',xs',e',q',r'⟩ rx ry=>by
  subst e e'
  cases rx
  cases ry
  by_cases hp:p=p'
  ·subst hp
   have:=I.list_inj q q'
   subst this
   have:=pfn (F:=k.rep _ _) (fun _ _ _ h1 h2=>k.fn I h1 h2) r r'
   subst this
   rw[decide_eq_true rfl]
   exact SeqAt.EqAt.same _
  ·obtain⟨its,v1,t1,_⟩:=I.list q
   obtain⟨its',v2,t2,_⟩:=I.list q'
   refine SeqAt.EqAt.of_refs hp ?_
   have z1:its.toArray.size=a.length:=by rw[List.size_toArray,←v1.length,r.length]
   have z2:its'.toArray.size=b.length:=by rw[List.size_toArray,←v2.length,r'.length]
   by_cases hl:a.length=b.length
   ·have h:=SeqAt.RcAt.lists (A:=A) (e:=fun j=>decide (a[j]?=b[j]?)) t1.isList t2.isList (by lia) (by lia) (eY k I (by show A.units+1+k.dep<cLine;lia) r r' v1 v2)
    rw[z1,ju hl] at h
    exact h
   ·rw[decide_eq_false (fun z=>hl (by rw[z]))]
    exact SeqAt.RcAt.lists_lengths t1.isList t2.isList (by rw[z1,z2];simpa using hl) (by lia)
 rcAt:=fun {X aa σ H s A x y a b u v} I hu ⟨p,xs,e,q,r⟩ ⟨p',xs',e',q',r'⟩ rx ry=>by
  subst e e'
  cases rx
  cases ry
  obtain⟨its,v1,t1,_⟩:=I.list q
  obtain⟨its',v2,t2,_⟩:=I.list q'
  have z1:its.toArray.size=a.length:=by rw[List.size_toArray,←v1.length,r.length]
  have z2:its'.toArray.size=b.length:=by rw[List.size_toArray,←v2.length,r'.length]
  by_cases hl:a.length=b.length
  ·have h:=SeqAt.RcAt.lists (A:=A) (e:=fun j=>decide (a[j]?=b[j]?)) t1.isList t2.isList (by lia) (by lia) (eY k I (by show A.units+1+k.dep<cLine;lia) r r' v1 v2)
   rw[z1,ju hl] at h
   exact h
  ·rw[decide_eq_false (fun z=>hl (by rw[z]))]
   exact SeqAt.RcAt.lists_lengths t1.isList t2.isList (by rw[z1,z2];simpa using hl) (by lia)
 neAt:=fun {X aa σ H s A x y a b u v} I hu ⟨p,xs,e,q,r⟩ ⟨p',xs',e',q',r'⟩ rx ry=>by
  subst e e'
  cases rx
  cases ry
  obtain⟨its,v1,t1,_⟩:=I.list q
  obtain⟨its',v2,t2,_⟩:=I.list q'
  have z1:its.toArray.size=a.length:=by rw[List.size_toArray,←v1.length,r.length]
  have z2:its'.toArray.size=b.length:=by rw[List.size_toArray,←v2.length,r'.length]
  by_cases hl:a.length=b.length
  ·have h:=SeqAt.RcNeAt.lists (A:=A) (e:=fun j=>decide (a[j]?=b[j]?)) t1.isList t2.isList (by lia) (by lia) (eY k I (by show A.units+1+k.dep<cLine;lia) r r' v1 v2)
   rw[z1,ju hl] at h
   exact h
  ·rw[decide_eq_false (fun z=>hl (by rw[z]))]
   exact SeqAt.RcNeAt.lists_lengths t1.isList t2.isList (by rw[z1,z2];simpa using hl) (by lia)
variable {X:Cx}
def AK (k:Dk α) (K:W.Frag) (neg:Bool):R2:=fun x y H Q=>∃a b,k.rep K H x a∧k.rep K H y b∧Q (.bl (if neg then !decide (a=b) else decide (a=b))) H
theorem AL (k:Dk α) (hu:X.A.units+k.dep<cLine):OpR X (compareOp .Eq) (AK k X.K false):=by
 intro aa s σ H x y v u Q I rx ry h
 obtain⟨a,b,ha,hb,q⟩:=h
 exact k.rcAt I hu ha hb rx ry X.prog X.w X.xe _ ⟨.bl (decide (a=b)),H,I,rfl,q⟩
theorem AM (k:Dk α) (hu:X.A.units+k.dep<cLine):OpR X (compareOp .NotEq) (AK k X.K true):=by
 intro aa s σ H x y v u Q I rx ry h
 obtain⟨a,b,ha,hb,q⟩:=h
 exact k.neAt I hu ha hb rx ry X.prog X.w X.xe _ ⟨.bl (!decide (a=b)),H,I,rfl,q⟩
end
end L2
namespace L2
open PySem PySem.Spec PyProof.Rows
section
variable {κ:Type} [DecidableEq κ]
def bS (kvs:List (κ×V)) (k:κ):Option V:=(kvs.find? fun kv=>decide (kv.1=k)).map (·.2)
def cr (kvs:List (κ×V)) (k:κ) (v:V):List (κ×V):=
 if (kvs.any fun kv=>decide (kv.1=k))=true then kvs.map (fun kv=>if kv.1=k then (kv.1,v) else kv) else kvs++[(k,v)]
theorem EN {k:κ}:bS ([]:List (κ×V)) k=none:=rfl
theorem dj {p:κ×V}{r:List (κ×V)}{k:κ}(e:p.1=k):bS (p::r) k=some p.2:=by simp[bS,List.find?_cons,e]
theorem dm {p:κ×V}{r:List (κ×V)}{k:κ}(e:¬p.1=k):bS (p::r) k=bS r k:=by simp[bS,List.find?_cons,e]
theorem ip (k:κ):∀kvs:List (κ×V),(kvs.any fun kv=>decide (kv.1=k))=(bS kvs k).isSome
 | []=>rfl
 | p::r=>by
  rw[List.any_cons]
  by_cases e:p.1=k
  ·simp only[dj e,decide_eq_true e,Bool.true_or,Option.isSome_some]
  ·rw[dm e,decide_eq_false e,Bool.false_or];exact ip k r
theorem fu (kvs:List (κ×V)) (k:κ) (v:V):(cr kvs k v).length≤kvs.length+1:=by
 unfold cr
 split
 ·rw[List.length_map];lia
 ·rw[List.length_append,List.length_cons,List.length_nil];lia
theorem dH.isSome_eq {o:Option V}{u:Option Value}(r:dH o u):o.isSome=u.isSome:=by
 cases o with
 | none=>cases u with
  | none=>rfl
  | some _=>exact(show False from r).elim
 | some _=>cases u with
  | none=>exact(show False from r).elim
  | some _=>rfl
theorem KV.val {kvs:List (κ×V)}{vs:List (κ×Value)}(r:KV kvs vs) (k:κ):dH (bS kvs k) (valueAt vs k):=by
 unfold KV at r
 induction r with
 | nil=>exact True.intro
 | @cons p q ps qs h t ih=>
  obtain⟨h1,h2⟩:=h
  by_cases e:p.1=k
  ·have e':q.1=k:=h1.symm.trans e
   have b:valueAt (q::qs) k=some q.2:=by simp[valueAt,List.find?_cons,e']
   rw[dj e,b];exact h2
  ·have e':¬q.1=k:=fun z=>e (h1.trans z)
   have b:valueAt (q::qs) k=valueAt qs k:=by simp[valueAt,List.find?_cons,e']
   rw[dm e,b];exact ih
theorem KV.any {kvs:List (κ×V)}{vs:List (κ×Value)}(r:KV kvs vs) (k:κ):(kvs.any fun kv=>decide (kv.1=k))=vs.any fun kv=>decide (kv.1=k):=by
 unfold KV at r
 induction r with
 | nil=>rfl
 | cons h t ih=>rw[List.any_cons,List.any_cons,ih,h.1]
theorem KV.repl {kvs:List (κ×V)}{vs:List (κ×Value)}(r:KV kvs vs) (k:κ) {y:V}{u:Value}(ry:az y u) :
  KV (kvs.map fun kv=>if kv.1=k then (kv.1,y) else kv) (vs.map fun kv=>if kv.1=k then (kv.1,u) else kv):=by
 unfold KV at r ⊢
 induction r with
 | nil=>exact .nil
 | @cons p q ps qs h t ih=>
  rw[List.map_cons,List.map_cons]
  refine .cons ?_ ih
  obtain⟨h1,h2⟩:=h
  by_cases e:p.1=k
  ·rw[if_pos e,if_pos (h1.symm.trans e)];exact⟨h1,ry⟩
  ·rw[if_neg e,if_neg (fun z=>e (h1.trans z))];exact⟨h1,h2⟩
theorem KV.put {kvs:List (κ×V)}{vs:List (κ×Value)}(r:KV kvs vs) (k:κ) {y:V}{u:Value}(ry:az y u):KV (cr kvs k y) (stored vs k u):=by
 unfold cr stored
 rw[r.any k]
 by_cases e:(vs.any fun kv=>decide (kv.1=k))=true
 ·rw[if_pos e,if_pos e];exact r.repl k ry
 ·rw[if_neg e,if_neg e];exact Paired.snoc r ⟨rfl,ry⟩
theorem KV.length {kvs:List (κ×V)}{vs:List (κ×Value)}(r:KV kvs vs):kvs.length=vs.length:=Paired.length r
end
theorem jv {P:Program}{w:World}{k:Key}{u:Value}(r:az (kV k) u):(aX P w).is k u=true:=by
 cases k with
 | inl i=>obtain⟨t,e⟩:=(show ∃t,u=Value.int i t from r);subst e;exact qU P w i t
 | inr x=>obtain⟨t,e⟩:=(show ∃t,u=Value.str x t from r);subst e;exact qV P w x t
theorem mI {P:Program}{w:World}:∀{ks:List Key}{us:List Value},av (ks.map kV) us->ItemsAre (aX P w) ks us
 | [],_,r=>by rw[List.map_nil] at r;cases r;exact .nil
 | k::ks,_,r=>by
  rw[List.map_cons] at r
  cases r with
  | cons h t=>exact .cons (jv h) (mI t)
abbrev KT (H:Hp):List (List Key×V)->List (List Key×Addr×Value)->Prop:=Paired fun p q=>p.1=q.1∧H q.2.1=some (.tup (p.1.map kV))∧az p.2 q.2.2
theorem KT.val {H:Hp}{kvs:List (List Key×V)}{xs:List (List Key×Addr×Value)}(r:KT H kvs xs) (k:List Key):dH (bS kvs k) ((atKey xs k).map (·.2)):=by
 induction r with
 | nil=>exact True.intro
 | @cons p q ps qs h t ih=>
  obtain⟨h1,_,h2⟩:=h
  by_cases e:p.1=k
  ·have e':q.1=k:=h1.symm.trans e
   have b:atKey (q::qs) k=some q.2:=by simp[atKey,List.find?_cons,e']
   rw[dj e,b];exact h2
  ·have e':¬q.1=k:=fun z=>e (h1.trans z)
   have b:atKey (q::qs) k=atKey qs k:=by simp[atKey,List.find?_cons,e']
   rw[dm e,b];exact ih
theorem KT.repl {H:Hp}{kvs:List (List Key×V)}{xs:List (List Key×Addr×Value)}(r:KT H kvs xs) (k:List Key) {y:V}{u:Value}(ry:az y u) :
  KT H (kvs.map fun kv=>if kv.1=k then (kv.1,y) else kv) (xs.map (putAt k u)):=by
 induction r with
 | nil=>exact .nil
 | @cons p q ps qs h t ih=>
  rw[List.map_cons,List.map_cons]
  refine .cons ?_ ih
  obtain⟨h1,h2,h3⟩:=h
  unfold putAt
  by_cases e:p.1=k
  ·rw[if_pos e,if_pos (h1.symm.trans e)];exact⟨h1,h2,ry⟩
  ·rw[if_neg e,if_neg (fun z=>e (h1.trans z))];exact⟨h1,h2,h3⟩
theorem KT.put {H:Hp}{kvs:List (List Key×V)}{xs:List (List Key×Addr×Value)}(r:KT H kvs xs) (k:List Key) {b:Addr}{y:V}{u:Value}(hb:H b=some (.tup (k.map kV))) (ry:az y u) :
  KT H (cr kvs k y) (storedH xs k b u):=by
 have e:(kvs.any fun kv=>decide (kv.1=k))=(atKey xs k).isSome:=by
  rw[ip,(r.val k).isSome_eq,Option.isSome_map]
 unfold cr storedH
 rw[e]
 by_cases q:(atKey xs k).isSome=true
 ·rw[if_pos q,if_pos q];exact r.repl k ry
 ·rw[if_neg q,if_neg q];exact Paired.snoc r ⟨rfl,hb,ry⟩
theorem KT.keeps {H H':Hp}{kvs:List (List Key×V)}{xs:List (List Key×Addr×Value)}(r:KT H kvs xs) (ht:∀b ys,H b=some (.tup ys)->H' b=some (.tup ys)):KT H' kvs xs:=
 Paired.mapP r fun _ _ z=>⟨z.1,ht _ _ z.2.1,z.2.2⟩
section
variable {P:Program}{w:World}{H:Hp}{h:Heap}{a:Addr}
theorem yg {u:HO}(ok:HOk P w H h) (e:Rd H a u):aS P w H h a u:=e.ok ok
theorem n8 {kvs:List (Key×V)}(ok:HOk P w H h) (e:Rd H a (.dK kvs)):kvs.length≤sizeLine∧(a==sysModules)=false∧∃vs,KV kvs vs∧h.DictOf (aX P w) a vs:=
 show aS P w H h a (.dK kvs) from yg ok e
theorem kQ {kvs:List (Key×V)}(ok:HOk P w H h) (e:H a=some (.dK kvs)):kvs.length≤sizeLine∧(a==sysModules)=false∧∃vs,KV kvs vs∧h.DictOf (aX P w) a vs:=n8 ok (.inl e)
theorem kR {ks:List Key}(ok:HOk P w H h) (e:H a=some (.tup (ks.map kV))):(tupleKind (aX P w)).is h ks a:=by
 obtain⟨_,its,r,o,h1,h2,n,h3,_⟩:=(show aS P w H h a (.tup (ks.map kV)) from ok a _ e)
 exact⟨o,its.toArray,n,h1,h2,h3,by simpa using mI r⟩
theorem oh {kvs:List (List Key×V)}(ok:HOk P w H h) (e:Rd H a (.dT kvs)):kvs.length≤sizeLine∧(a==sysModules)=false∧
  ∃xs,KT H kvs xs∧h.DictOfH (tupleKind (aX P w)) a xs:=by
 obtain⟨z,y,xs,r,o,es,ep,h1,h2,h3,h4,h5⟩:=(show aS P w H h a (.dT kvs) from yg ok e)
 refine⟨z,y,xs,r,o,es,ep,h1,h2,h3,h4,fun x hx=>?_,h5⟩
 have all:∀{l:List (List Key×V)}{m:List (List Key×Addr×Value)},KT H l m->∀x∈m,(tupleKind (aX P w)).is h x.1 x.2.1:=by
  intro l m q
  induction q with
  | nil=>intro x hx;exact nomatch hx
  | @cons p q ps qs hq t ih=>
   intro x hx
   rcases List.mem_cons.mp hx with e|hx
   ·subst e
    exact kR ok (by rw[←hq.1];exact hq.2.1)
   ·exact ih x hx
 exact all r x hx
theorem Dy {kvs:List (List Key×V)}(ok:HOk P w H h) (e:H a=some (.dT kvs)):kvs.length≤sizeLine∧(a==sysModules)=false∧
  ∃xs,KT H kvs xs∧h.DictOfH (tupleKind (aX P w)) a xs:=oh ok (.inl e)
end
def iq (H:Hp) (a:Addr) (y:V) (r:Option V):Prop:=
 (∃kvs k,Rd H a (.dK kvs)∧y=kV k∧r=bS kvs k)∨∃kvs k b,Rd H a (.dT kvs)∧y=.ref b∧H b=some (.tup (k.map kV))∧r=bS kvs k
def o4 (H:Hp) (a:Addr) (y v:V) (H':Hp):Prop:=
 (∃kvs k,H a=some (.dK kvs)∧y=kV k∧kvs.length<sizeLine∧H'=upd H a (.dK (cr kvs k v)))∨
 ∃kvs k b,H a=some (.dT kvs)∧y=.ref b∧H b=some (.tup (k.map kV))∧kvs.length<sizeLine∧H'=upd H a (.dT (cr kvs k v))
theorem iq.k {H:Hp}{a:Addr}{kvs:List (Key×V)}{k:Key}(e:H a=some (.dK kvs)):iq H a (kV k) (bS kvs k):=.inl ⟨kvs,k,.inl e,rfl,rfl⟩
theorem o4.k {H:Hp}{a:Addr}{kvs:List (Key×V)}{k:Key}{v:V}(e:H a=some (.dK kvs)) (hl:kvs.length<sizeLine):o4 H a (kV k) v (upd H a (.dK (cr kvs k v))):=.inl ⟨kvs,k,e,rfl,hl,rfl⟩
section
variable {X:Cx}{aa:List (Addr×Obj)}{σ:St}{H:Hp}{s:Shared}{a:Addr}{y v:V}{u r:Value}{o:Option V}{A:Around}{E:Value->Shared->Prop}
theorem Inv.big (I:Inv X aa σ H s):sysModules<s.heap.objs.size:=by
 have h:mainGlobals<s.heap.objs.size:=(I.mod.glob.keeps I.bk).lt
 exact Nat.lt_trans (by decide) h
theorem u4 {Q:Value->Shared->Prop}(hu:A.units+1<cLine) (I:Inv X aa σ H s) (g:iq H a y (some v)) (ry:az y u) (h:∀w' s',Inv X aa σ H s'->az v w'->Q w' s') :
  wpAny (model X.prog X.w) A (getItem (.ref a) u) Q E s:=by
 rcases g with⟨kvs,k,e,ey,l⟩|⟨kvs,k,b,e,ey,eb,l⟩
 ·subst ey
  obtain⟨z,hd,vs,rel,dd⟩:=n8 I.hok e
  obtain⟨w',hw,rw'⟩:=dH.some_of (v:=v) (o:=valueAt vs k) (by rw[l];exact rel.val k)
  exact wpAny_getItem_of (jv ry) dd.mapOf hw (h w' _ (I.tok _) rw')
 ·subst ey
  cases (show u=Value.ref b from ry)
  obtain⟨z,hd,xs,rel,dd⟩:=oh I.hok e
  obtain⟨w',hw,rw'⟩:=dH.some_of (v:=v) (o:=(atKey xs k).map (·.2)) (by rw[l];exact rel.val k)
  obtain⟨p,hp,hp2⟩:=Option.map_eq_some_iff.mp hw
  refine wpAny_getItem_heap (tupleKind_room_in1 hu) (kR I.hok eb) dd hp ?_
  rw[hp2]
  exact h w' _ (I.tok _) rw'
theorem EO {Q:Value->Shared->Prop}(hu:A.units+1<cLine) (I:Inv X aa σ H s) (g:iq H a y o) (ry:az y u) (h:∀s',Inv X aa σ H s'->Q (.bool o.isSome) s') :
  wpAny (model X.prog X.w) A (compareOp .In u (.ref a)) Q E s:=by
 rcases g with⟨kvs,k,e,ey,l⟩|⟨kvs,k,b,e,ey,eb,l⟩
 ·subst ey
  obtain⟨z,hd,vs,rel,dd⟩:=n8 I.hok e
  refine wpAny_in_of (jv ry) hd dd.mapOf ?_
  rw[←(rel.val k).isSome_eq,←l]
  exact h _ (I.tok _)
 ·subst ey
  cases (show u=Value.ref b from ry)
  obtain⟨z,hd,xs,rel,dd⟩:=oh I.hok e
  refine wpAny_in_heap (tupleKind_room_in1 hu) (kR I.hok eb) hd dd ?_
  have q:=(rel.val k).isSome_eq
  rw[Option.isSome_map] at q
  rw[←q,←l]
  exact h _ (I.tok _)
theorem jw {h':Heap}{t':Nat}{ob:HO}(I:Inv X aa σ H s) (mu:Mut (H a)) (hs:Heap.SameBut a s.heap h') (he:∃q,h'.get? a=some q) (new:aS X.prog X.w (upd H a ob) h' a ob) :
  Inv X aa σ (upd H a ob) { s with heap:=h',toks:=t' }:=
 I.write (x:=a) (e:=a) mu (.inl rfl) (fun b q hb z=>(hs.2 b hb).trans z) he new
theorem o5 {P:Program}{w:World}{H':Hp}{h':Heap}{kvs:List (Key×V)}{vs:List (Key×Value)}(z:kvs.length≤sizeLine) (hd:(a==sysModules)=false) (rel:KV kvs vs) (dd:h'.DictOf (aX P w) a vs) :
  aS P w H' h' a (.dK kvs):=⟨z,hd,vs,rel,dd⟩
theorem u5 {H':Hp}{Q:Unit->Shared->Prop}(hu:A.units+1<cLine) (I:Inv X aa σ H s) (g:o4 H a y v H') (ry:az y u) (rv:az v r) (h:∀s',Inv X aa σ H' s'->Q () s') :
  wpAny (model X.prog X.w) A (setItem (.ref a) u r) Q E s:=by
 rcases g with⟨kvs,k,e,ey,l,eH⟩|⟨kvs,k,b,e,ey,eb,l,eH⟩
 ·subst ey eH
  obtain⟨z,hd,vs,rel,dd⟩:=kQ I.hok e
  have hz:vs.length≤sizeLine:=by rw[←rel.length];exact z
  have hl:(cr kvs k v).length≤sizeLine:=by have:=fu kvs k v;lia
  refine wpAny_setItem_pairs (hsz:=hz) (jv ry) dd fun h' dd' hs=>h _ ?_
  have he:∃q,h'.get? a=some q:=let ⟨q,_,_,hq,_⟩:=dd';⟨q,hq⟩
  exact jw I (by rw[e];exact True.intro) hs he (o5 hl hd (rel.put k rv) dd')
 ·subst ey eH
  cases (show u=Value.ref b from ry)
  obtain⟨z,hd,xs,rel,dd⟩:=Dy I.hok e
  have hz:xs.length≤sizeLine:=by rw[←Paired.length rel];exact z
  have hl:(cr kvs k v).length≤sizeLine:=by have:=fu kvs k v;lia
  refine wpAny_setItem_heap (hsz:=hz) (tupleKind_room_in1 hu) (kR I.hok eb) dd fun h' dd' hs=>h _ ?_
  obtain⟨q,es,ep,hq,h2,h3,h4,_,h5⟩:=dd'
  refine jw I (by rw[e];exact True.intro) hs ⟨q,hq⟩ ⟨hl,hd,_,(rel.put k eb rv).keeps fun c ys ec=>?_,q,es,ep,hq,h2,h3,h4,h5⟩
  rw[ap (nU ec e (fun z=>nomatch z))]
  exact ec
end
section
variable {X:Cx}{aa:List (Addr×Obj)}{σ:St}{H:Hp}{s:Shared}{a:Addr}{kvs:List (Key×V)}{k:Key}{u:Value}{A:Around}{E:Value->Shared->Prop}
end
def wW (i:Expr):Prop:=∀ov iv,subscripted i false ov iv=operate [ov,iv] (getItem ov iv)
theorem rM {prog:Program}{w:World}{A:Around}{E:Value->Shared->Prop}{s:Shared}{env:Env}{value slice:Expr}{pos:Pos}{T id:String}{Q:Value->Shared->Prop}
  (hl:typeLookup (.type T) "__getitem__"=pure (some (.builtin id))) (hs:wW slice)
  (h:wpAny (model prog w) A (eval value env) (fun o s₁=>wpAny (model prog w) A (eval slice env) (fun i s₂=>s₂.TypeIs o T∧wpAny (model prog w) A (getItem o i) Q E s₂) E s₁) E s) :
  wpAny (model prog w) A (eval (.Subscript value slice pos) env) Q E s:=by
 refine Subscript_ (wpAny_mono h (fun o s₁ h₁=>wpAny_mono h₁ (fun i s₂ h₂=>?_) fun _ _ x=>x) fun _ _ x=>x)
 obtain⟨hT,h₂⟩:=h₂
 unfold subscriptTail
 refine wpAny_bind ?_
 rw[getitemInPython_of_ne hT.not_modules]
 refine wpAny_bind (wpAny_specialOf hT hl ?_)
 have fin:wpAny (model prog w) A (subscripted slice false o i) (fun r s₃=>wpAny (model prog w) A (letTemporaryGo value o r >>= fun _=>pure r) Q E s₃) E s₂:=by
  rw[hs o i]
  exact wpAny_operating (wpAny_mono h₂ (fun r s₃ h₃=>wpAny_bind (wpAny_letTemporaryGo (wpAny_pure h₃))) fun _ _ x=>x)
 first
  | exact wpAny_pure (wpAny_bind fin)
  | exact wpAny_bind (wpAny_pure (wpAny_bind fin))
  | exact wpAny_bind fin
theorem re {X:Cx}{aa:List (Addr×Obj)}{σ:St}{H:Hp}{s:Shared}{a:Addr}{y:V}{o:Option V}(I:Inv X aa σ H s) (g:iq H a y o):s.TypeIs (.ref a) "dict":=by
 rcases g with⟨kvs,k,e,_,_⟩|⟨kvs,k,b,e,_,_,_⟩
 ·obtain⟨_,_,vs,_,dd⟩:=n8 I.hok e
  exact dd.typeIs
 ·obtain⟨_,_,xs,_,dd⟩:=oh I.hok e
  exact dd.typeIs
def Dz (td ty:TE):TE:=fun σ H Q=>td σ H fun x H1=>ty σ H1 fun y H2=>∃a v,x=.ref a∧iq H2 a y (some v)∧Q v H2
def EQ (ty td:TE):TE:=fun σ H Q=>ty σ H fun y H1=>td σ H1 fun x H2=>∃a o,x=.ref a∧iq H2 a y o∧Q (.bl o.isSome) H2
def DA (td ty tv:TE):TS:=fun D σ H=>tv σ H fun v H1=>td σ H1 fun x H2=>ty σ H2 fun y H3=>∃a H4,x=.ref a∧o4 H3 a y v H4∧D.nx σ H4
section
variable {X:Cx}{o i e value:Expr}{pos pos' tpos:Pos}{td ty tv:TE}
theorem ze (hu:X.A.units+1<cLine) (ho:PE X o td) (hi:PE X i ty) (hs:wW i):PE X (.Subscript o i pos) (Dz td ty):=by
 intro aa s σ H Q I h
 refine rM PySem.F.slot_dict_getitem.lookup hs (thn (ho aa s σ H _ I h) fun u s1 hh=>ex5 hh fun x H1 I1 rx q1=>thn (hi aa s1 σ H1 _ I1 q1) fun iv s2 hh9=>?_)
 obtain⟨y,H2,I2,ry,a,v,ex,g,q2⟩:=hh9
 subst ex
 obtain rfl:u=Value.ref a:=rx
 exact⟨re I2 g,u4 hu I2 g ry fun w' s3 I3 rw'=>⟨v,H2,I3,rw',q2⟩⟩
theorem u6 (hu:X.A.units+1<cLine) (hi:PE X i ty) (ho:PE X o td):PC X .In i o (EQ ty td):=by
 intro aa s σ H Q I h
 refine thn (hi aa s σ H _ I h) fun iv s1 hh=>ex5 hh fun y H1 I1 ry q1=>thn (ho aa s1 σ H1 _ I1 q1) fun u s2 hh9=>?_
 obtain⟨x,H2,I2,rx,a,ov,ex,g,q2⟩:=hh9
 subst ex
 obtain rfl:u=Value.ref a:=rx
 exact EO hu I2 g ry fun s3 I3=>⟨.bl ov.isSome,H2,I3,rfl,q2⟩
theorem zf (hu:X.A.units+1<cLine) (ho:PE X o td) (hi:PE X i ty) (hv:PE X value tv) (hs:swapsWith value (some (.Subscript o i pos')) pos.line X.env=pure false) :
  PS X (.Assign [.Subscript o i pos'] value pos) (DA td ty tv):=by
 intro aa s σ H D I h
 refine wpAny_Assign_Subscript (thn (hv aa s σ H _ I h) fun r s1 hh=>ex5 hh fun v H1 I1 rv q1=>thn (ho aa s1 σ H1 _ I1 q1) fun u s2 hh=>ex5 hh fun x H2 I2 rx q2=>thn (hi aa s2 σ H2 _ I2 q2) fun iv s3 hh9=>?_) hs
 obtain⟨y,H3,I3,ry,a,H4,ex,g,q3⟩:=hh9
 subst ex
 obtain rfl:u=Value.ref a:=rx
 exact u5 hu I3 g ry rv fun s4 I4=>⟨σ,H4,I4,q3⟩
end
theorem o6 {P:Program}{w:World}{H:Hp}(h:Heap) (hb:sysModules<h.objs.size):aS P w H (h.push { cls:=.type "dict",data:=.dict #[] }) h.objs.size (.dK []):=
 ⟨Nat.zero_le _,beq_eq_false_iff_ne.mpr (Ne.symm (Nat.ne_of_lt hb)),[],.nil,Heap.DictOf.new h⟩
def AN:TE:=fun _ H Q=>∀p,H p=none->Q (.ref p) (upd H p (.dK []))
section
variable {X:Cx}{pos:Pos}
theorem wX:PE X (.Dict [] [] pos) AN:=fun aa s σ H Q I h=>
 wpAny_Dict_empty ⟨.ref s.heap.objs.size,_,I.laid (a:=s.heap.objs.size) (o:=.dK []) (t':=s.toks) (fun _ _ q=>Heap.get?_push_of_some _ q) (Nat.le_refl _) (o6 s.heap I.big),rfl,h _ (I.hok.fresh (Nat.le_refl _))⟩
end
def o7:List (TE×TE)->St->Hp->(List (V×V)->Hp->Prop)->Prop
 | [],_,H,Q=>Q [] H
 | (tk,tv)::r,σ,H,Q=>tk σ H fun x H1=>tv σ H1 fun y H2=>o7 r σ H2 fun ps H3=>Q ((x,y)::ps) H3
abbrev VV:List (V×V)->List (Value×Value)->Prop:=Paired fun p q=>az p.1 q.1∧az p.2 q.2
def PPs (X:Cx) (pos:Pos) (keys:List (Option Expr)) (values:List Expr) (trs:List (TE×TE)):Prop:=
 ∀(aa:List (Addr×Obj)) (s:Shared) (σ:St) (H:Hp) (Q:List (V×V)->Hp->Prop),Inv X aa σ H s->o7 trs σ H Q->
  wpAny (model X.prog X.w) X.A (evalPairs (pairTrees keys values X.env pos)) (fun vs s'=>∃ps H',Inv X aa σ H' s'∧VV ps vs∧Q ps H') X.xe s
theorem zh {X:Cx}{pos:Pos}:PPs X pos [] [] []:=fun aa s σ H Q I h=>pairTrees_nil_walk ⟨[],H,I,.nil,h⟩
theorem o8 {X:Cx}{pos:Pos}{k v:Expr}{ks:List (Option Expr)}{vs:List Expr}{tk tv:TE}{trs:List (TE×TE)}(hk:PE X k tk) (hv:PE X v tv) (hr:PPs X pos ks vs trs) :
  PPs X pos (some k::ks) (v::vs) ((tk,tv)::trs):=fun aa s σ H Q I h=>
 pairTrees_cons_walk (thn (hk aa s σ H _ I h) fun u s1 hh=>ex5 hh fun x H1 I1 rx q1=>thn (hv aa s1 σ H1 _ I1 q1) fun w2 s2 hh=>ex5 hh fun y H2 I2 ry q2=>
  thn (hr aa s2 σ H2 _ I2 q2) fun ws s3 hh=>ex5 hh fun ps H3 I3 rel q3=>⟨(x,y)::ps,H3,I3,.cons ⟨rx,ry⟩ rel,q3⟩)
def fU (kvs more:List (Key×V)):List (Key×V):=more.foldl (fun acc kv=>cr acc kv.1 kv.2) kvs
theorem KV.merge:∀{more:List (Key×V)}{rs:List (Key×Value)}{kvs:List (Key×V)}{vs:List (Key×Value)},KV more rs->KV kvs vs->KV (fU kvs more) (merged vs rs):=by
 intro more rs kvs vs r
 unfold KV at r
 induction r generalizing kvs vs with
 | nil=>intro q;exact q
 | @cons p q ps qs h t ih=>
  intro r0
  have e:KV (cr kvs p.1 p.2) (stored vs q.1 q.2):=by
   have:=r0.put p.1 h.2
   rw[←h.1];exact this
  exact ih e
theorem iL:∀(more kvs:List (Key×V)),(fU kvs more).length≤kvs.length+more.length
 | [],kvs=>by show kvs.length≤kvs.length+0;lia
 | p::r,kvs=>by
  have h1:=iL r (cr kvs p.1 p.2)
  have h2:=fu kvs p.1 p.2
  show(fU (cr kvs p.1 p.2) r).length≤_
  rw[List.length_cons];lia
theorem kS {P:Program}{w:World}:∀{kvs:List (Key×V)}{ws:List (Value×Value)},VV (kvs.map fun kv=>(kV kv.1,kv.2)) ws->∃rs,Carries (aX P w) ws rs∧KV kvs rs
 | [],_,r=>by rw[List.map_nil] at r;cases r;exact⟨[],True.intro,.nil⟩
 | p::kvs,_,r=>by
  rw[List.map_cons] at r
  cases r with
  | @cons a b as bs h t=>
   obtain⟨rs,c,q⟩:=kS (P:=P) (w:=w) t
   obtain⟨b1,b2⟩:=b
   exact⟨(p.1,b2)::rs,⟨jv h.1,rfl,c⟩,.cons ⟨rfl,h.2⟩ q⟩
def DB (trs:List (TE×TE)):TE:=fun σ H Q=>∀p,H p=none->o7 trs σ (upd H p (.dK [])) fun ps H2=>H2 p=some (.dK [])∧∃kvs:List (Key×V),ps=kvs.map (fun kv=>(kV kv.1,kv.2))∧kvs.length≤15∧Q (.ref p) (upd H2 p (.dK (fU [] kvs)))
theorem zi {X:Cx}{pos:Pos}{keys:List (Option Expr)}{values:List Expr}{trs:List (TE×TE)}(h:PPs X pos keys values trs) (hall:keys.all (·.isSome)=true) (hl:keys.length=values.length) (h0:keys≠[])
  (h15:keys.length≤15):PE X (.Dict keys values pos) (DB trs):=by
 intro aa s σ H Q I q
 have hn:=I.hok.fresh (Nat.le_refl s.heap.objs.size)
 have I1:=I.laid (a:=s.heap.objs.size) (o:=.dK []) (h':=s.heap.push { cls:=.type "dict",data:=.dict #[] }) (t':=s.toks) (fun _ _ q=>Heap.get?_push_of_some _ q) (Nat.le_refl _) (o6 s.heap I.big)
 refine wpAny_Dict_walk (knd:=aX X.prog X.w) hall hl h0 h15 (thn (h aa _ σ _ _ I1 (q _ hn)) fun ws s2 hh9=>?_)
 obtain⟨ps,H2,I2,rel,e,kvs,ep,lk,q2⟩:=hh9
 subst ep
 obtain⟨rs,c,rk⟩:=kS (P:=X.prog) (w:=X.w) rel
 obtain⟨z,hd,vs0,r0,dd⟩:=kQ I2.hok e
 cases r0
 refine⟨rs,c,dd,fun h' dd' hs=>⟨.ref s.heap.objs.size,_,?_,rfl,q2⟩⟩
 have hz:(fU [] kvs).length≤sizeLine:=by
  have h1:=iL kvs []
  rw[List.length_nil] at h1
  rw[sizeLine_eq];lia
 have he:∃q,h'.get? s.heap.objs.size=some q:=let ⟨q,_,_,hq,_⟩:=dd';⟨q,hq⟩
 exact jw I2 (by rw[e];exact True.intro) hs he (o5 hz hd (rk.merge .nil) dd')
section
variable {X:Cx}{aa:List (Addr×Obj)}{σ:St}{H:Hp}{s:Shared}{a:Addr}{y d:V}{u r:Value}{o:Option V}{A:Around}{E:Value->Shared->Prop}
end
section
variable {X:Cx}{o e f:Expr}{apos cpos:Pos}{td ty tx:TE}
end
section
variable {X:Cx}{aa:List (Addr×Obj)}{σ:St}{H:Hp}{s:Shared}{a:Addr}{kvs:List (Key×V)}{A:Around}{E:Value->Shared->Prop}
end
section
variable {X:Cx}{aa:List (Addr×Obj)}{σ:St}{H:Hp}{s:Shared}{a:Addr}{y:V}{u:Value}{A:Around}{E:Value->Shared->Prop}
end
end L2
namespace L2
open PySem PySem.Spec PyProof.Rows
section
variable {X:Cx}
end
section
variable {κ:Type} [DecidableEq κ]
end
end L2
namespace L2
open PySem PySem.Spec PyProof.Rows
def bB (h:Heap) (ks:List Int) (a:Addr):Prop:=∃items:Array Value,h.IsTuple a items∧Paired (fun v (k:Int)=>∃t,v=Value.int k t) items.toList ks
def cD (h:Heap) (kss:List (List Int)) (a:Addr):Prop:=∃items:Array Value,h.IsTuple a items∧Paired (fun v ks=>∃b,v=Value.ref b∧bB h ks b) items.toList kss
theorem rN {h:Heap}{a:Addr}{i j:Array Value}(x:h.IsTuple a i) (y:h.IsTuple a j):i=j:=by
 obtain⟨o,e,_,n,d⟩:=x
 obtain⟨o',e',_,n',d'⟩:=y
 rw[e] at e'
 cases e'
 rw[d] at d'
 injection d'
theorem bB.inj {h:Heap}{a:Addr}{x y:List Int}(p:bB h x a) (q:bB h y a):x=y:=by
 obtain⟨i,t,r⟩:=p
 obtain⟨j,t',r'⟩:=q
 have:=rN t t'
 subst this
 exact pfn (F:=fun v (k:Int)=>∃t,v=Value.int k t) (fun _ _ _ ⟨_,h1⟩ ⟨_,h2⟩=>by rw[h1] at h2;cases h2;rfl) r r'
theorem cD.inj {h:Heap}{a:Addr}{x y:List (List Int)}(p:cD h x a) (q:cD h y a):x=y:=by
 obtain⟨i,t,r⟩:=p
 obtain⟨j,t',r'⟩:=q
 have:=rN t t'
 subst this
 exact pfn (F:=fun v ks=>∃b,v=Value.ref b∧bB h ks b) (fun _ _ _ ⟨_,h1,g1⟩ ⟨_,h2,g2⟩=>by rw[h1] at h2;cases h2;exact g1.inj g2) r r'
theorem mJ {h h':Heap}{a d:Addr}{o:Obj}{es ep}{i:Array Value}(x:h.IsTuple a i) (ho:h.get? d=some o) (hd:o.data=.dict es ep) (hs:Heap.SameBut d h h'):h'.IsTuple a i:=by
 obtain⟨o',e,c,n,d'⟩:=x
 refine⟨o',(hs.2 a ?_).trans e,c,n,d'⟩
 rintro rfl
 rw[e] at ho
 cases ho
 rw[d'] at hd
 cases hd
theorem bB.keeps {h h':Heap}{a d:Addr}{o:Obj}{es ep}{x:List Int}(p:bB h x a) (ho:h.get? d=some o) (hd:o.data=.dict es ep) (hs:Heap.SameBut d h h'):bB h' x a:=
 let ⟨i,t,r⟩:=p;⟨i,mJ t ho hd hs,r⟩
theorem cD.keeps {h h':Heap}{a d:Addr}{o:Obj}{es ep}{x:List (List Int)}(p:cD h x a) (ho:h.get? d=some o) (hd:o.data=.dict es ep) (hs:Heap.SameBut d h h'):cD h' x a:=
 let ⟨i,t,r⟩:=p;⟨i,mJ t ho hd hs,aJ (fun _ _ ⟨b,e,q⟩=>⟨b,e,q.keeps ho hd hs⟩) r⟩
section
variable {A:Around}{s:Shared}
theorem pf {α:Type} [DecidableEq α] {F:Value->α->Prop}{us vs:Array Value}{as bs:List α}(p:Paired F us.toList as) (q:Paired F vs.toList bs) (h:∀u v a b,F u a->F v b->SeqAt.EqAt A s u v (decide (a=b))) :
  ∀j (h1:j<us.size) (h2:j<vs.size),SeqAt.EqAt A s us[j] vs[j] (decide (as[j]?=bs[j]?)):=by
 intro j h1 h2
 obtain⟨a,ea,ra⟩:=bR (i:=j) (a:=us[j]) p (by simp[h1])
 obtain⟨b,eb,rb⟩:=bR (i:=j) (a:=vs[j]) q (by simp[h2])
 rw[ea,eb]
 have e3:decide (some a=some b)=decide (a=b):=by
  by_cases h:a=b
  ·subst h;simp
  ·simp[h]
 rw[e3]
 exact h _ _ _ _ ra rb
theorem DC {x y:List Int}{a b:Addr}(hu:A.units<cLine) (p:bB s.heap x a) (q:bB s.heap y b):SeqAt.EqAt A s (.ref a) (.ref b) (decide (x=y)):=by
 by_cases e:a=b
 ·subst e
  have:=p.inj q
  subst this
  rw[decide_eq_true rfl]
  exact SeqAt.EqAt.same _
 ·obtain⟨i,t,r⟩:=p
  obtain⟨j,t',r'⟩:=q
  refine SeqAt.EqAt.of_refs e ?_
  have h:=SeqAt.RcAt.tuples (A:=A) (e:=fun k=>decide (x[k]?=y[k]?)) t t' hu (pf r r' fun u v a b ⟨_,h1⟩ ⟨_,h2⟩=>by
   subst h1 h2
   rw[←gP]
   exact SeqAt.EqAt.int_int _ _ _ _)
  rw[gQ (by rw[←Array.length_toList,r.length]) (by rw[←Array.length_toList,r'.length])] at h
  exact h
theorem AO {x y:List (List Int)}{a b:Addr}(hu:A.units+1<cLine) (p:cD s.heap x a) (q:cD s.heap y b):SeqAt.EqAt A s (.ref a) (.ref b) (decide (x=y)):=by
 by_cases e:a=b
 ·subst e
  have:=p.inj q
  subst this
  rw[decide_eq_true rfl]
  exact SeqAt.EqAt.same _
 ·obtain⟨i,t,r⟩:=p
  obtain⟨j,t',r'⟩:=q
  refine SeqAt.EqAt.of_refs e ?_
  have h:=SeqAt.RcAt.tuples (A:=A) (e:=fun k=>decide (x[k]?=y[k]?)) t t' (by lia) (pf r r' fun u v a b ⟨_,h1,g1⟩ ⟨_,h2,g2⟩=>by
   subst h1 h2
   exact DC (A:=A.in1) hu g1 g2)
  rw[gQ (by rw[←Array.length_toList,r.length]) (by rw[←Array.length_toList,r'.length])] at h
  exact h
end
section
variable {prog:Program}{w:World}{A:Around}{E:Value->Shared->Prop}{s:Shared}
theorem items_int:∀{vs:List Value}{ks:List Int},Paired (fun v (k:Int)=>∃t,v=Value.int k t) vs ks->ItemsAre (intKind prog w) ks vs
 | _,_,.nil=>.nil
 | _,_,.cons ⟨t,e⟩ r=>by
  subst e
  exact .cons (by simp[intKind,Value.isInt]) (items_int r)
theorem bB.key {h:Heap}{ks:List Int}{a:Addr}(p:bB h ks a):IsTupleKey (intKind prog w) h ks a:=by
 obtain⟨i,⟨o,e,c,n,d⟩,r⟩:=p
 exact⟨o,i,n,e,c,d,items_int r⟩
def fV (ks:List Int):Int:=reduceHash (Builtin.Tuple.tupleHashOf (ks.map hashInt))
def gR (kss:List (List Int)):Int:=reduceHash (Builtin.Tuple.tupleHashOf (kss.map fV))
def jZ (kss:List (List Int)):Nat:=(kss.map fun ks=>ks.length+1).sum+1
theorem eO {a:Addr}{i:Array Value}(x:s.heap.IsTuple a i):s.TypeIs (.ref a) "tuple":=let ⟨o,e,c,_⟩:=x;⟨o,e,c⟩
theorem u7 {ks:List Int}{a:Addr}{Q:Int->Shared->Prop}(hu:A.units<cLine) (hk:bB s.heap ks a) (h:Q (fV ks) { s with toks:=s.toks+(ks.length+1) }):wpAny (model prog w) A (pyHash (.ref a)) Q E s:=
 wpAny_pyHash_tuple (knd:=intKind prog w) hu hk.key h
theorem tN {kss:List (List Int)}{a:Addr}{Q:Int->Shared->Prop}(hu:A.units+1<cLine) (hk:cD s.heap kss a) (h:Q (gR kss) { s with toks:=s.toks+jZ kss }):wpAny (model prog w) A (pyHash (.ref a)) Q E s:=by
 obtain⟨items,tp,hi⟩:=hk
 have hT:=eO tp
 obtain⟨o,ho,hcl,n,hd⟩:=tp
 unfold pyHash
 first|unfold pyHashByItsType|skip
 first|refine wpAny_bind (wpAny_cRoomFor_or (.inr (by lia)) ?_)|skip
 refine wpAny_bind (wpAny_specialOf hT F.slot_tuple_hash.lookup ?_)
 show wpAny _ _ (if (some (Value.builtin "tuple.__hash__")==some Value.none)=true then _ else _) Q E s
 rw[if_neg (by rw[beq_builtin_none];exact Bool.false_ne_true)]
 refine wpAny_bind (wpAny_specialOf hT F.slot_tuple_hash.lookup ?_)
 show wpAny _ _ (callSpecialIfBoundUnlessNone? (.ref a) "__hash__" _ >>= _) Q E s
 refine wpAny_bind (wpAny_callSpecialIfBoundUnlessNone?_slot hT F.slot_tuple_hash (wpAny_call_entry F.slot_tuple_hash hT F.entry_tuple_hash ?_ (F.args_tuple_hash_1 _)))
 show wpAny _ _ (Builtin.Tuple.tupleItemsOf (.ref a) >>= _) _ _ s
 refine wpAny_bind (wpAny_tupleItemsOf ho hd ?_)
 refine wpAny_bind ?_
 rw[←Array.forIn_toList]
 refine wpAny_forIn_list _
  (fun rest (b:Array Int) s'=>∃done left,kss=done++left∧Paired (fun v ks=>∃b,v=Value.ref b∧bB s.heap ks b) rest left∧b.toList=done.map fV∧s'={ s with toks:=s.toks+(done.map fun ks=>ks.length+1).sum })
  _ ?_ ?_ _ _ ⟨[],kss,rfl,hi,rfl,rfl⟩
 ·rintro x rest b s' ⟨done,left,rfl,hl,hb,rfl⟩
  cases hl with
  | @cons _ ks _ left' h1 hl'=>
   obtain⟨c,rfl,h1⟩:=h1
   refine wpAny_bind (u7 (A:=A.in1) hu h1 ?_)
   first
    | exact wpAny_pure ⟨done++[ks],left',by simp,hl',by simp[hb],by simp[Nat.add_assoc]⟩
    | exact wpAny_bind (wpAny_pure (wpAny_pure ⟨done++[ks],left',by simp,hl',by simp[hb],by simp[Nat.add_assoc]⟩))
 ·rintro b s' ⟨done,left,rfl,hl,hb,rfl⟩
  cases hl
  rw[List.append_nil] at h
  show wpAny _ _ (retInt (Builtin.Tuple.tupleHashOf b.toList)) _ _ _
  rw[hb]
  refine wpAny_ret_mkInt ?_
  show wpAny _ _ (if (decide (-(2:Int) ^ 63≤Builtin.Tuple.tupleHashOf (done.map fV))&&decide (Builtin.Tuple.tupleHashOf (done.map fV)<2 ^ 63))=true then _ else _) Q E _
  unfold gR reduceHash jZ at h
  by_cases hr:(decide (-(2:Int) ^ 63≤Builtin.Tuple.tupleHashOf (done.map fV))&&decide (Builtin.Tuple.tupleHashOf (done.map fV)<2 ^ 63))=true
  ·rw[if_pos hr]
   rw[if_pos hr] at h
   exact wpAny_pure (by simpa [Nat.add_assoc] using h)
  ·rw[if_neg hr]
   rw[if_neg hr] at h
   exact wpAny_bind (wpAny_rule (wpAny_pure (by simpa [Nat.add_assoc] using h)))
theorem ph (n:Nat) {a:Addr}{items:Array Value}{Q:Bool->Shared->Prop}(tp:s.heap.IsTuple a items) (hv:∀v∈items.toList,∀(Q:Bool->Shared->Prop),Q true s->wpAny (model prog w) A (eqIsQuiet n v) Q E s) (h:Q true s) :
  wpAny (model prog w) A (eqIsQuiet (n+1) (.ref a)) Q E s:=by
 have hT:=eO tp
 obtain⟨o,ho,hcl,n',hd⟩:=tp
 unfold eqIsQuiet
 refine wpAny_bind (wpAny_specialOf hT F.slot_tuple_eq.lookup ?_)
 show wpAny _ _ (isInstance (.ref a) (.type "tuple") >>= _) _ _ s
 refine wpAny_bind (wpAny_isInstance hT isSubtype_tuple_tuple ?_)
 simp only[Bool.not_true,Bool.false_eq_true,if_false]
 refine wpAny_bind (wpAny_seqItems ho hd ?_)
 refine wpAny_bind ?_
 show wpAny _ _ (forIn items _ _) _ _ s
 rw[←Array.forIn_toList]
 refine wpAny_forIn_list _ (fun rest r s'=>r.1=none∧s'=s∧∀v∈rest,v∈items.toList) _ ?_ ?_ _ _ ⟨rfl,rfl,fun v hv=>hv⟩
 ·rintro v rest r s' ⟨hr,rfl,hall⟩
  refine wpAny_bind (hv v (hall v List.mem_cons_self) _ ?_)
  simp only[Bool.not_true,Bool.false_eq_true,if_false]
  exact wpAny_pure ⟨rfl,rfl,fun u hu'=>hall u (List.mem_cons_of_mem _ hu')⟩
 ·rintro⟨r1,r2⟩ s' ⟨hr,rfl,_⟩
  simp only at hr
  subst hr
  exact wpAny_pure h
theorem eP {α β:Type}{F:α->β->Prop}:∀{l₁:List α}{l₂:List β},Paired F l₁ l₂->∀a∈l₁,∃b∈l₂,F a b
 | _,_,.nil,a,h=>by cases h
 | _,_,.cons r t,a,h=>by
  rcases List.mem_cons.mp h with rfl|h
  ·exact⟨_,List.mem_cons_self,r⟩
  ·obtain⟨b,m,q⟩:=eP t a h
   exact⟨b,List.mem_cons_of_mem _ m,q⟩
theorem wY (n:Nat) {ks:List Int}{a:Addr}{Q:Bool->Shared->Prop}(hk:bB s.heap ks a) (h:Q true s):wpAny (model prog w) A (eqIsQuiet (n+1) (.ref a)) Q E s:=by
 obtain⟨i,t,r⟩:=hk
 refine ph n t (fun v hv Q' q=>?_) h
 obtain⟨k,_,t',e⟩:=eP r v hv
 subst e
 rw[eqIsQuiet_byValue n rfl]
 exact wpAny_pure q
theorem u8 (n:Nat) {kss:List (List Int)}{a:Addr}{Q:Bool->Shared->Prop}(hk:cD s.heap kss a) (h:Q true s):wpAny (model prog w) A (eqIsQuiet (n+2) (.ref a)) Q E s:=by
 obtain⟨i,t,r⟩:=hk
 refine ph (n+1) t (fun v hv Q' q=>?_) h
 obtain⟨ks,_,b,e,g⟩:=eP r v hv
 subst e
 exact wY n g q
def fW (prog:Program) (w:World):HeapKind prog w (List (List Int)) where
 is:=cD
 hash:=gR
 draws:=jZ
 room:=fun A=>A.units+1<cLine
 inj:=fun p q=>p.inj q
 keeps:=fun p ho hd hs=>p.keeps ho hd hs
 pyHash:=fun hu hk h=>tN hu hk h
 eqBool:=fun hu hx hy h=>AO hu hx hy _ _ _ _ h
 quiet:=fun hk h=>u8 6 hk h
end
end L2
namespace L2
open PySem PySem.Spec PyProof.Rows
theorem kT {α β γ:Type}{F:α->β->Prop}{G:α->γ->Prop}{R:β->γ->Prop}(h:∀a b c,F a b->G a c->R b c):∀{l:List α}{m:List β}{n:List γ},Paired F l m->Paired G l n->Paired R m n
 | _,_,_,.nil,.nil=>.nil
 | _,_,_,.cons r t,.cons r' t'=>.cons (h _ _ _ r r') (kT h t t')
abbrev aK:Dk (List Int):=AJ tL
abbrev cR:Dk (List (List Int)):=AJ aK
section
variable {X:Cx}{aa:List (Addr×Obj)}{σ:St}{H:Hp}{s:Shared}
theorem yh {a:Addr}{ks:List Int}(I:Inv X aa σ H s) (h:aK.rep X.K H (.ref a) ks):bB s.heap ks a:=by
 obtain⟨p,xs,e,q,r⟩:=h
 cases e
 obtain⟨its,v,t,_⟩:=I.tuple q
 refine⟨its.toArray,t,?_⟩
 exact kT (F:=az) (G:=tL.rep X.K H) (fun x u k h1 h2=>by
  have h2:x=V.int k:=h2
  subst h2
  exact h1) v r
theorem iW {a:Addr}{kss:List (List Int)}(I:Inv X aa σ H s) (h:cR.rep X.K H (.ref a) kss):cD s.heap kss a:=by
 obtain⟨p,xs,e,q,r⟩:=h
 cases e
 obtain⟨its,v,t,_⟩:=I.tuple q
 refine⟨its.toArray,t,?_⟩
 exact kT (F:=az) (G:=aK.rep X.K H) (fun x u k h1 h2=>by
  obtain⟨p,xs,e,q,r⟩:=id h2
  subst e
  cases h1
  exact⟨p,rfl,yh I h2⟩) v r
end
abbrev NL3:=List (List (List Int)×Addr×Int)
def PL (L:NL3) (xs:List (List (List Int)×Addr×Value)):Prop:=Paired (fun(p:List (List Int)×Addr×Int) (q:List (List Int)×Addr×Value)=>p.1=q.1∧p.2.1=q.2.1∧∃t,q.2.2=Value.int p.2.2 t) L xs
def ef (d:Addr) (L:NL3):HO:=.ext fun h=>(d==sysModules)=false∧∃xs,PL L xs∧∃o es ep,h.get? d=some o∧o.ExactDict∧o.data=.dict es ep∧es.toList=xs.map (fun x=>(⟨gR x.1,.ref x.2.1,x.2.2⟩:DictEntry))∧(xs.map (·.1)).Nodup
theorem rO {P:Program}{w:World}{H:Hp}{h:Heap}{d:Addr}{L:NL3}(x:(d==sysModules)=false∧∃xs,PL L xs∧∃o es ep,h.get? d=some o∧o.ExactDict∧o.data=.dict es ep∧es.toList=xs.map (fun x=>(⟨gR x.1,.ref x.2.1,x.2.2⟩:DictEntry))∧(xs.map (·.1)).Nodup) :
  aS P w H h d (ef d L):=by
 refine⟨x,?_,fun h1 h2 ⟨y,xs,p,o,es,ep,e,r⟩ k=>⟨y,xs,p,o,es,ep,k _ e,r⟩⟩
 obtain⟨_,_,_,o,_,_,e,_⟩:=x
 exact⟨o,e⟩
def dL (L:NL3) (k:List (List Int)):Option Int:=(L.find? fun e=>decide (e.1=k)).map (·.2.2)
theorem oj {k:List (List Int)}:∀{L:NL3}{xs:List (List (List Int)×Addr×Value)},PL L xs->(dL L k=none∧atKey xs k=none)∨∃n a t,dL L k=some n∧atKey xs k=some (a,.int n t)
 | _,_,.nil=>.inl ⟨rfl,rfl⟩
 | e::L,x::xs,.cons r t=>by
  obtain⟨k1,a1,n1⟩:=e
  obtain⟨k2,a2,v2⟩:=x
  obtain⟨h1,h2,tk,h3⟩:=r
  dsimp only at h1 h2 h3
  subst h1 h2 h3
  by_cases z:k1=k
  ·subst z
   exact .inr ⟨n1,a1,tk,by simp[dL],by simp[atKey]⟩
  ·have ih:=oj (k:=k) t
   have e1:dL ((k1,a1,n1)::L) k=dL L k:=by simp[dL,z]
   have e2:atKey ((k1,a1,Value.int n1 tk)::xs) k=atKey xs k:=by simp[atKey,z]
   rw[e1,e2]
   exact ih
def ir (K:W.Frag) (H:Hp) (L:NL3):Prop:=∀e∈L,cR.rep K H (.ref e.2.1) e.1
section
variable {X:Cx}{aa:List (Addr×Obj)}{σ:St}{H:Hp}{s:Shared}{d b:Addr}{L:NL3}{k:List (List Int)}
theorem pi (I:Inv X aa σ H s) (e:H d=some (ef d L)) (hk:ir X.K H L):(d==sysModules)=false∧∃xs,PL L xs∧s.heap.DictOfH (fW X.prog X.w) d xs:=by
 obtain⟨⟨y,xs,p,o,es,ep,e1,e2,e3,e4,e5⟩,_⟩:=(show aS X.prog X.w H s.heap d (ef d L) from I.hok d _ e)
 refine⟨y,xs,p,o,es,ep,e1,e2,e3,e4,fun x hx=>?_,e5⟩
 have all:∀{L:NL3}{xs:List (List (List Int)×Addr×Value)},ir X.K H L->PL L xs->∀x∈xs,cD s.heap x.1 x.2.1:=by
  intro L xs hk p
  induction p with
  | nil=>intro x hx;cases hx
  | @cons e x L xs r t ih=>
   intro z hz
   rcases List.mem_cons.mp hz with rfl|hz
   ·have:=iW I (hk e List.mem_cons_self)
    rw[r.1,r.2.1] at this
    exact this
   ·exact ih (fun e' he'=>hk e' (List.mem_cons_of_mem _ he')) z hz
 exact all hk p x hx
def zj (K:W.Frag):R2:=fun x y H Q=>∃d L b k,y=.ref d∧x=.ref b∧H d=some (ef d L)∧ir K H L∧cR.rep K H (.ref b) k∧Q (.bl (!(dL L k).isSome)) H
theorem u9 (hu:X.A.units+2<cLine):OpR X (compareOp .NotIn) (zj X.K):=by
 intro aa s σ H x y v u Q I rx ry h
 obtain⟨d,L,b,k,rfl,rfl,e,hk,hb,q⟩:=h
 cases rx
 cases ry
 obtain⟨hd,xs,p,dd⟩:=pi I e hk
 refine wpAny_notIn_heap (knd:=fW X.prog X.w) (by show X.A.units+1+1<cLine;lia) (iW I hb) hd dd ⟨.bl (!(dL L k).isSome),H,I.tok _,?_,q⟩
 show _=Value.bool _
 rcases oj (k:=k) p with⟨z1,z2⟩|⟨n,a,t,z1,z2⟩
 ·rw[z1,z2];rfl
 ·rw[z1,z2];rfl
def DD (K:W.Frag) (td ty:TE):TE:=fun σ H Q=>td σ H fun x H1=>ty σ H1 fun y H2=>∃d L b k n,x=.ref d∧y=.ref b∧H2 d=some (ef d L)∧ir K H2 L∧cR.rep K H2 (.ref b) k∧dL L k=some n∧Q (.int n) H2
theorem zk {o i:Expr}{pos:Pos}{td ty:TE}(hu:X.A.units+2<cLine) (ho:PE X o td) (hi:PE X i ty) (hs:wW i):PE X (.Subscript o i pos) (DD X.K td ty):=by
 intro aa s σ H Q I h
 refine rM PySem.F.slot_dict_getitem.lookup hs (thn (ho aa s σ H _ I h) fun u s1 hh=>ex5 hh fun x H1 I1 rx q1=>thn (hi aa s1 σ H1 _ I1 q1) fun iv s2 hh9=>?_)
 obtain⟨y,H2,I2,ry,d,L,b,k,n,ex,ey,e,hk,hb,hn,q2⟩:=hh9
 subst ex ey
 cases rx
 cases ry
 obtain⟨hd,xs,p,dd⟩:=pi I2 e hk
 refine⟨dd.typeIs,?_⟩
 rcases oj (k:=k) p with⟨z1,z2⟩|⟨n',a,t,z1,z2⟩
 ·rw[z1] at hn;cases hn
 ·rw[z1] at hn
  cases hn
  exact wpAny_getItem_heap (knd:=fW X.prog X.w) (by show X.A.units+1+1<cLine;lia) (iW I2 hb) dd z2 ⟨.int n,H2,I2.tok _,⟨t,rfl⟩,q2⟩
def DE (K:W.Frag) (td ty tv:TE):TS:=fun D σ H=>tv σ H fun v H1=>td σ H1 fun x H2=>ty σ H2 fun y H3=>∃d L b k n,v=.int n∧x=.ref d∧y=.ref b∧H3 d=some (ef d L)∧ir K H3 L∧cR.rep K H3 (.ref b) k∧dL L k=none∧L.length<sizeLine∧
 D.nx σ (upd H3 d (ef d (L++[(k,b,n)])))
theorem zn {o i value:Expr}{pos pos':Pos}{td ty tv:TE}(hu:X.A.units+2<cLine) (ho:PE X o td) (hi:PE X i ty) (hv:PE X value tv) (hs:swapsWith value (some (.Subscript o i pos')) pos.line X.env=pure false) :
  PS X (.Assign [.Subscript o i pos'] value pos) (DE X.K td ty tv):=by
 intro aa s σ H D I h
 refine wpAny_Assign_Subscript (thn (hv aa s σ H _ I h) fun r s1 hh=>ex5 hh fun v H1 I1 rv q1=>thn (ho aa s1 σ H1 _ I1 q1) fun u s2 hh=>ex5 hh fun x H2 I2 rx q2=>thn (hi aa s2 σ H2 _ I2 q2) fun iv s3 hh9=>?_) hs
 obtain⟨y,H3,I3,ry,d,L,b,k,n,ev,ex,ey,e,hk,hb,hn,hl,q3⟩:=hh9
 subst ev ex ey
 obtain⟨t,rfl⟩:=rv
 cases rx
 cases ry
 obtain⟨hd,xs,p,dd⟩:=pi I3 e hk
 have z2:atKey xs k=none:=by
  rcases oj (k:=k) p with⟨z1,z2⟩|⟨n',a,t',z1,z2⟩
  ·exact z2
  ·rw[z1] at hn;cases hn
 refine wpAny_setItem_heap (knd:=fW X.prog X.w) (hsz:=by rw[←Paired.length p];lia) (by show X.A.units+1+1<cLine;lia) (iW I3 hb) dd fun h' dd' hsb=>⟨σ,_,?_,q3⟩
 rw[storedH_new z2] at dd'
 obtain⟨o',es,ep,e1,e2,e3,e4,_,e5⟩:=dd'
 refine I3.write (x:=d) (e:=d) (by rw[e];exact True.intro) (.inl rfl) (fun b q hb z=>(hsb.2 b hb).trans z) ⟨_,e1⟩ (rO ⟨hd,_,cN p (.cons ⟨rfl,rfl,t,rfl⟩ .nil),o',es,ep,e1,e2,e3,e4,e5⟩)
theorem wZ {pos:Pos}:PE X (.Dict [] [] pos) (fun _ H Q=>∀p,H p=none->Q (.ref p) (upd H p (ef p []))):=fun aa s σ H Q I h=>
 wpAny_Dict_empty ⟨.ref s.heap.objs.size,_,I.laid (a:=s.heap.objs.size) (o:=ef s.heap.objs.size []) (t':=s.toks) (fun _ _ q=>Heap.get?_push_of_some _ q) (Nat.le_refl _)
  (rO ⟨beq_eq_false_iff_ne.mpr (Ne.symm (Nat.ne_of_lt I.big)),[],.nil,_,#[],0,Heap.get?_push_size _ rfl,⟨rfl,rfl,rfl⟩,rfl,rfl,List.nodup_nil⟩),rfl,h _ (I.hok.fresh (Nat.le_refl _))⟩
end
end L2
namespace L2
open PySem PySem.Spec PyProof.Rows
section
variable {X:Cx}{aa:List (Addr×Obj)}{σ:St}{H:Hp}{s:Shared}{a:Addr}{kvs:List (Key×V)}
theorem Inv.freeze (I:Inv X aa σ H s) (e:H a=some (.dK kvs)):∃ob,(∃es ep,ob.data=.dict es ep)∧Inv X aa σ (upd H a (.frz ob (.dK kvs))) s:=by
 obtain⟨z,hd,vs,rel,dd⟩:=kQ I.hok e
 obtain⟨o,es,ep,ho,hc,hdat,r⟩:=id dd
 refine⟨o,⟨es,ep,hdat⟩,?_⟩
 have:=I.write (x:=a) (e:=a) (h':=s.heap) (t':=s.toks) (o:=.frz o (.dK kvs)) (by rw[e];exact True.intro) (.inl rfl) (fun b u _ q=>q) ⟨o,ho⟩ ⟨ho,z,hd,vs,rel,dd⟩
 exact this
theorem pj {ob:Obj}{es:Array DictEntry}{ep:Nat}(I:Inv X aa σ H s) (e:H a=some (.frz ob (.dK kvs))) (hob:ob.data=.dict es ep):(a==sysModules)=false∧∃vs,KV kvs vs∧s.heap.DictAt (aX X.prog X.w) a vs ep:=by
 obtain⟨ho,z,hd,vs,rel,o',es',ep',ho',hc,hdat,r⟩:=(show aS X.prog X.w H s.heap a (.frz ob (.dK kvs)) from I.hok a _ e)
 rw[ho] at ho'
 cases ho'
 rw[hob] at hdat
 cases hdat
 exact⟨hd,vs,rel,ob,es,ho,hc,hob,r⟩
end
def Itd (a:Addr) (ob:Obj) (kvs:List (Key×V)):It:=
 ⟨fun i H=>H a=some (.frz ob (.dK kvs))∧i<kvs.length,fun i H x H'=>H'=H∧∃kv,kvs[i]?=some kv∧x=kV kv.1,fun i H=>H a=some (.frz ob (.dK kvs))∧kvs.length≤i⟩
theorem rP {P:Program}{w:World}{k:Key}{u:Value}(h:(aX P w).is k u=true):az (kV k) u:=by
 rw[sP] at h
 rcases bK h with⟨i,t,rfl,rfl⟩|⟨x,t,rfl,rfl⟩
 ·exact⟨t,rfl⟩
 ·exact⟨t,rfl⟩
theorem vc {P:Program}{w:World}{K:W.Frag}{tg:Expr}(a it:Addr) (ob:Obj) (kvs:List (Key×V)) {es:Array DictEntry}{ep:Nat}(hob:ob.data=.dict es ep) :
  Turn P w K tg (Itd a ob kvs) [it] it (fun i h=>h.IsKeyIter it a i kvs.length ep) where
 mem:=by simp
 obj:=fun i h st b hb=>by
  have e:b=it:=by simpa using hb
  subst e
  obtain⟨o,e,c,d⟩:=st
  exact⟨o,e,fun v z=>by rw[d] at z;cases z⟩
 keep:=fun i h h' st k=>st.at fun o e=>k it (by simp) o e
 item:=by
  intro X hP hw hK hc i aa s σ H E I hf st hg
  subst hP hw hK
  obtain⟨e,hi⟩:=hg
  obtain⟨hd,vs,rel,dd⟩:=pj I e hob
  obtain⟨f0,f1,f2,f3,f4,f5⟩:=hf it (by simp)
  have hx:kvs[i]?=some kvs[i]:=List.getElem?_eq_getElem hi
  obtain⟨⟨k,v⟩,hv,hk,_⟩:=bR (F:=fun(p:Key×V) (q:Key×Value)=>p.1=q.1∧az p.2 q.2) rel hx
  rw[rel.length] at st
  refine wpAny_pyNext_dict_item (knd:=aX X.prog X.w) st dd hv fun key h' hkey st' sb=>?_
  have I1:Inv X aa σ H { s with heap:=h' }:=I.turned (t':=s.toks) (fun b o hb e=>(sb.2 b hb).trans e) f0 f1 f3 f4 f5
  obtain⟨o,e',c,d⟩:=id st'
  rw[←rel.length] at st'
  exact⟨key,rfl,nV (s:={ s with heap:=h' }) e' c d (by decide) ⟨kV k,H,I1,rP hkey,⟨rfl,kvs[i],hx,by rw[hk]⟩,st',fun b hb=>(hf b hb).1⟩⟩
 done:=by
  intro X hP hw hK hc i aa s σ H E I hf st hg
  subst hP hw hK
  obtain⟨e,hi⟩:=hg
  obtain⟨hd,vs,rel,dd⟩:=pj I e hob
  obtain⟨f0,f1,f2,f3,f4,f5⟩:=hf it (by simp)
  have hl:=rel.length
  rw[rel.length] at st
  exact wpAny_pyNext_dict_end (knd:=aX X.prog X.w) (I.ok.hd hc) st dd (List.getElem?_eq_none (by lia)) fun h' eb=>⟨rfl,I.turned (t':=s.toks) (fun b o hb e=>eb b o hb e) f0 f1 f3 f4 f5⟩
 self:=fun _ _ _ _ _ st h=>wpAny_pyIter_keyiter st h
def DF (tl:TE):TI:=fun σ H R=>tl σ H fun x H1=>∃a kvs,x=.ref a∧H1 a=some (.dK kvs)∧∀ob,R (Itd a ob kvs) (upd H1 a (.frz ob (.dK kvs)))
section
variable {X:Cx}{tg:Expr}
theorem zo {l:Expr}{tl:TE}(hl:PE X l tl):PI X tg l (DF tl):=by
 intro aa s σ H R I h
 refine thn (hl aa s σ H _ I h) fun v s1 hh9=>?_
 obtain⟨x,H1,I1,r1,a,kvs,ex,ea,q⟩:=hh9
 subst ex
 cases r1
 obtain⟨ob,⟨es,ep,hob⟩,I2⟩:=I1.freeze ea
 obtain⟨hd,vs,rel,dd⟩:=pj I2 ag hob
 refine wpAny_pyIter_dict (knd:=aX X.prog X.w) hd dd ?_
 refine⟨s1.heap.objs.size,[s1.heap.objs.size],_,_,_,rfl,I2.kept (t':=s1.toks) fun b o e=>Heap.get?_push_of_some _ e,vc a _ ob kvs hob,⟨_,Heap.get?_push_size _ rfl,rfl,by rw[rel.length];rfl⟩,fun b hb=>?_,q ob⟩
 have e:b=s1.heap.objs.size:=by simpa using hb
 subst e
 exact I2.fpOk (Nat.le_refl _) (I2.hok.fresh (Nat.le_refl _))
end
theorem vd {a:Addr}{ob:Obj}{kvs:List (Key×V)}{tt:TT}{te:TE}{σ:St}{H:Hp}{Q:VK}(Pv:Nat->List V->Hp->Prop) (h0:Pv 0 [] H) (hl:∀i ys H,i≤kvs.length->Pv i ys H->H a=some (.frz ob (.dK kvs))∧ys.length≤i) (hz:kvs.length≤sizeLine)
  (hs:∀i kv ys H,kvs[i]?=some kv->Pv i ys H->tt (some (kV kv.1)::σ) H fun b H4=>if b=true then te (some (kV kv.1)::σ) H4 fun y H5=>Pv (i+1) (ys++[y]) H5 else Pv (i+1) ys H4)
  (hd:∀ys H p,Pv kvs.length ys H->H p=none->Q (.ref p) (upd H p (.lst ys))):jq (Itd a ob kvs) σ tt te Q H:=by
 refine⟨fun i m ys H=>m=kvs.length-i∧i≤kvs.length∧Pv i ys H,⟨kvs.length,by simp,Nat.zero_le _,h0⟩,?_⟩
 rintro i m ys H2 ⟨rfl,hi,p⟩
 obtain⟨q,hn⟩:=hl i ys H2 hi p
 by_cases hlt:i<kvs.length
 ·refine .inr ⟨⟨q,hlt⟩,by lia,Pv (i+1),fun zs H' p'=>⟨kvs.length-(i+1),by lia,rfl,hlt,p'⟩,fun x H3 y=>?_⟩
  obtain⟨e,kv,y,ex⟩:=y
  subst e ex
  exact hs i kv ys _ y p
 ·have e:i=kvs.length:=by lia
  subst e
  exact .inl ⟨⟨q,Nat.le_refl _⟩,by lia,fun b hb=>hd ys H2 b p hb⟩
section
variable {X:Cx}
theorem lS (hc:X.calm=true):cm X (.type "list") (fun xs H Q=>∃p kvs,xs=[.ref p]∧H p=some (.dK kvs)∧∀l,H l=none->Q (.ref l) (upd H l (.lst (kvs.map fun kv=>kV kv.1)))):=by
 intro aa s σ H xs us Q I r h
 obtain⟨p,kvs,rfl,hp,q⟩:=h
 obtain⟨u,rfl,ru⟩:=dB r
 cases ru
 obtain⟨z,hd,vs,rel,dd⟩:=kQ I.hok hp
 obtain⟨ep,da⟩:=dd.dictAt
 refine W.kdl_call (W.kdl_dict (knd:=aX X.prog X.w) hd) (I.ok.hd hc) da (by rw[←rel.length];exact z) fun h' tk acc' c' hk hS hacc=>?_
 refine⟨.ref s.heap.objs.size,_,I.laid (o:=.lst (kvs.map fun kv=>kV kv.1)) hk (Nat.le_refl _) ⟨by rw[List.length_map];exact z,acc'.toList,c',?_,by simpa using hS⟩,rfl,q _ (I.hok.fresh (Nat.le_refl _))⟩
 refine jS (by have h1:=hacc.1;have h2:=rel.length;simp;lia) fun i x u e1 e2=>?_
 have e2':acc'[i]?=some u:=by simpa using e2
 obtain⟨k,v,hv,hk'⟩:=hacc.2 i u e2'
 obtain⟨kv,e3,e4,_⟩:=io (F:=fun(p:Key×V) (q:Key×Value)=>p.1=q.1∧az p.2 q.2) rel hv
 rw[List.getElem?_map,e3] at e1
 cases e1
 show az (kV kv.1) u
 rw[show kv.1=k from e4]
 exact rP hk'
def DG:V->List V->Hp->VK->Prop:=fun o vs H Q=>∃p kvs k v,o=.ref p∧vs=[kV k,v]∧H p=some (.dK kvs)∧kvs.length<sizeLine∧(∀y,bS kvs k=some y->Q y H)∧(bS kvs k=none->Q v (upd H p (.dK (cr kvs k v))))
theorem nQ:MtR X "dict.setdefault" DG:=by
 intro aa s σ H o vs v us Q I ro rv h
 obtain⟨p,kvs,k,y,rfl,rfl,hp,hl,q1,q2⟩:=h
 cases ro
 obtain⟨u1,u2,rfl,r1,r2⟩:=rv.two
 obtain⟨z,hd,ws,rel,dd⟩:=kQ I.hok hp
 refine call_meetsIn PySem.F.slot_dict_setdefault dd.typeIs PySem.F.entry_dict_setdefault (PySem.F.args_dict_setdefault_3 _ _ _) (kt_meets_setdefault (aX X.prog X.w) p (jv r1) hd u2) ⟨ws,dd,by rw[←rel.length];exact z,fun w' hw=>?_,fun hn h' dd' hs=>?_⟩
 ·have hv:=rel.val k
  rw[hw] at hv
  cases e:bS kvs k with
  | none=>rw[e] at hv;exact hv.elim
  | some y'=>
   rw[e] at hv
   exact⟨y',H,I.tok _,hv,q1 y' e⟩
 ·have hv:=rel.val k
  rw[hn] at hv
  have e:bS kvs k=none:=by
   cases e:bS kvs k with
   | none=>rfl
   | some y'=>rw[e] at hv;exact hv.elim
  have he:∃q,h'.get? p=some q:=let ⟨q,_,_,hq,_⟩:=dd';⟨q,hq⟩
  exact⟨y,_,jw I (by rw[hp];exact True.intro) hs he (o5 (by have:=fu kvs k y;lia) hd (rel.put k r2) dd'),r2,q2 e⟩
end
end L2
namespace L2
open PySem PySem.Spec PyProof.Rows
section
variable {κ:PyProof.Rows.KeyKind}{xs ys:Array Keyed}{x n:Nat}
theorem rQ:SortedToK κ xs 1:=fun i j h1 h2=>by
 obtain rfl:i=0:=by lia
 obtain rfl:j=0:=by lia
 exact KeyOrd.kle_refl _
theorem zp (h:SortedToK κ xs x) (hx:1≤x) (hl:κ.kle (KK κ xs (x-1)) (KK κ xs x)):SortedToK κ xs (x+1):=fun i j h1 h2=>by
 rcases Nat.lt_or_ge j x with z|z
 ·exact h i j h1 z
 obtain rfl:j=x:=by lia
 rcases Nat.lt_or_ge i j with y|y
 ·exact KeyOrd.kle_trans (h i (j-1) (by lia) (by lia)) hl
 obtain rfl:i=j:=by lia
 exact KeyOrd.kle_refl _
theorem jx (h:NonIncK κ xs x) (hx:1≤x) (hl:κ.kle (KK κ xs x) (KK κ xs (x-1))):NonIncK κ xs (x+1):=fun i j h1 h2=>by
 rcases Nat.lt_or_ge j x with z|z
 ·exact h i j h1 z
 obtain rfl:j=x:=by lia
 rcases Nat.lt_or_ge i j with y|y
 ·exact KeyOrd.kle_trans hl (h i (j-1) (by lia) (by lia))
 obtain rfl:i=j:=by lia
 exact KeyOrd.kle_refl _
theorem pk (e:∀k,KK κ ys k=KK κ xs k) (h:NonIncK κ xs n):NonIncK κ ys n:=fun i j h1 h2=>by
 have:=h i j h1 h2
 rw[←e,←e] at this
 exact this
theorem zt:NonIncK κ xs 1:=fun i j h1 h2=>rQ j i (by lia) (by lia)
theorem w4 (h:NonIncK κ xs n) (hn:n≤xs.size):SortedToK κ (mirror xs 0 n ((n-0) / 2)) n:=fun i j h1 h2=>by
 rw[KK_mirror hn,KK_mirror hn,if_pos ⟨by lia,by lia⟩,if_pos ⟨by lia,by lia⟩]
 exact h _ _ (by lia) (by lia)
end
structure Sta (kd:SortKind) (a₀:Array Keyed) (st:SortSt):Prop where
 perm:(arrOf st).Perm a₀
 kind:kindOf st=kd
 failed:failedOf st=none
 pend:pendingOf st=#[]
theorem Sta.sz {kd:SortKind}{a₀:Array Keyed}{st:SortSt}(h:Sta kd a₀ st):(arrOf st).size=a₀.size:=h.perm.size_eq
theorem Sta.arr {kd:SortKind}{a₀ xs:Array Keyed}{st:SortSt}(h:Sta kd a₀ st) (p:xs.Perm (arrOf st)):Sta kd a₀ (setArr st xs):=⟨p.trans h.perm,h.kind,h.failed,h.pend⟩
section
variable {prog:Program}{w:World}{A:Around}{E:Value->Shared->Prop}{s:Shared}{a₀:Array Keyed}{κ:PyProof.Rows.KeyKind}{kd:SortKind}
def Cmp (prog:Program) (w:World) (A:Around) (E:Value->Shared->Prop) (s:Shared) (κ:PyProof.Rows.KeyKind) (kd:SortKind) (a₀:Array Keyed):Prop:=
 ∀(st:SortSt) (i j:Nat) (Q:Option Bool->SortSt->Prop),Sta kd a₀ st->i<a₀.size->j<a₀.size->Q (some (κ.blt (KK κ (arrOf st) i) (KK κ (arrOf st) j))) st->wpS (model prog w) A E s (ltAt' i j) Q st
theorem yi (C:Cmp prog w A E s κ kd a₀) {st:SortSt}{a m:Nat}{Q:AscSt->SortSt->Prop}(hm:m≤a₀.size) (ha:1≤a) (ham:a≤m) (B:Sta kd a₀ st) (hs:SortedToK κ (arrOf st) a)
  (h:∀n,a≤n->n≤m->SortedToK κ (arrOf st) n->(n=m∨κ.klt (KK κ (arrOf st) n) (KK κ (arrOf st) (n-1)))->Q (none,n) st):wpS (model prog w) A E s (ascLoop a m) Q st:=by
 refine wpS_forRange (fun x c st'=>st'=st∧c=(none,x)∧SortedToK κ (arrOf st) x) (fun x c st' h1 h2 ⟨e1,e2,r⟩=>?_) (fun c st' ⟨e1,e2,r⟩=>?_) ⟨rfl,rfl,hs⟩
 ·subst e1 e2
  refine wpS_bind (C _ _ _ _ B (by lia) (by lia) ?_)
  cases e:κ.blt (KK κ (arrOf st') x) (KK κ (arrOf st') (x-1)) with
  | true=>exact wpS_pure (h x h1 (by lia) r (.inr e))
  | false=>exact wpS_pure ⟨rfl,rfl,zp r (by lia) e⟩
 ·subst e1 e2
  have z:max a m=m:=by lia
  rw[z] at r ⊢
  exact h m ham (Nat.le_refl _) r (.inl rfl)
theorem vf (C:Cmp prog w A E s κ kd a₀) {st:SortSt}{n m:Nat}{Q:Option Nat->SortSt->Prop}(hm:m≤a₀.size) (h1:1≤n) (hn:n≤m) (B:Sta kd a₀ st) (hs:NonIncK κ (arrOf st) n)
  (h:∀k st',Sta kd a₀ st'->1≤k->k≤m->SortedToK κ (arrOf st') k->Q (some k) st'):wpS (model prog w) A E s (tail3 n m) Q st:=by
 have B':=B.arr (mirror_perm (arrOf st) 0 n ((n-0) / 2))
 exact wpS_bind (wpS_reverse (wpS_bind (yi C hm h1 hn B' (w4 hs (by rw[B.sz];lia)) fun k k1 k2 r _=>wpS_pure (h k _ B' (by lia) k2 r))))
theorem AQ (C:Cmp prog w A E s κ kd a₀) {st:SortSt}{n m:Nat}{Q:DescSt->SortSt->Prop}(hm:m≤a₀.size) (h1:1≤n) (hn:n≤m) (B:Sta kd a₀ st) (hs:NonIncK κ (arrOf st) n)
  (h:∀k q st',Sta kd a₀ st'->n≤k->k≤m->NonIncK κ (arrOf st') k->q+1≤k->(∀i,k-(q+1)≤i->i<k->KK κ (arrOf st') i=KK κ (arrOf st') (k-1))->Q (none,k,q) st') :
  wpS (model prog w) A E s (descLoop n m) Q st:=by
 have last:∀(ys:Array Keyed) (k:Nat),∀i,k+1-(0+1)≤i->i<k+1->KK κ ys i=KK κ ys (k+1-1):=fun ys k i a b=>by
  obtain rfl:i=k:=by lia
  rfl
 refine wpS_forRange (fun x c st'=>∃q,c=(none,x,q)∧Sta kd a₀ st'∧NonIncK κ (arrOf st') x∧q+1≤x∧∀i,x-(q+1)≤i->i<x->KK κ (arrOf st') i=KK κ (arrOf st') (x-1))
  (fun x c st' a1 a2 ⟨q,e,B',r,hq,eq⟩=>?_) (fun c st' ⟨q,e,B',r,hq,eq⟩=>?_) ⟨0,rfl,B,hs,by lia,fun i a b=>by obtain rfl:i=n-1:=(by lia);rfl⟩
 ·subst e
  have sz:x≤(arrOf st').size:=by rw[B'.sz];lia
  refine wpS_bind (C _ x (x-1) _ B' (by lia) (by lia) ?_)
  cases e:κ.blt (KK κ (arrOf st') x) (KK κ (arrOf st') (x-1)) with
  | true=>
   have r':=jx r (by lia) (KeyOrd.kle_of_klt e)
   show wpS _ _ _ _ (if q > 0 then _ else _) _ _
   rcases Nat.eq_zero_or_pos q with z|z
   ·rw[if_neg (by lia)]
    exact wpS_pure ⟨0,rfl,B',r',by lia,last _ _⟩
   ·rw[if_pos z]
    exact wpS_bind (wpS_reverse (wpS_pure ⟨0,rfl,B'.arr (mirror_perm _ _ _ _),pk (KK_mirror_equal sz eq) r',by lia,last _ _⟩))
  | false=>
   refine wpS_bind (C _ (x-1) x _ B' (by lia) (by lia) ?_)
   cases e2:κ.blt (KK κ (arrOf st') (x-1)) (KK κ (arrOf st') x) with
   | true=>exact wpS_pure (h x q st' B' a1 (by lia) r hq eq)
   | false=>
    have one:KK κ (arrOf st') x=KK κ (arrOf st') (x-1):=KeyOrd.kle_antisymm e2 e
    refine wpS_pure ⟨q+1,rfl,B',jx r (by lia) e2,by lia,fun i b1 b2=>?_⟩
    rw[show x+1-1=x from rfl]
    rcases Nat.lt_or_ge i x with z|z
    ·rw[one];exact eq i (by lia) z
    ·obtain rfl:i=x:=by lia
     rfl
 ·subst e
  have z:max n m=m:=by lia
  rw[z] at r hq eq ⊢
  exact h m q st' B' hn (Nat.le_refl _) r hq eq
theorem vg (C:Cmp prog w A E s κ kd a₀) {st:SortSt}{n m:Nat}{Q:Option Nat->SortSt->Prop}(hm:m≤a₀.size) (hn:n+1≤m) (B:Sta kd a₀ st) (hs:NonIncK κ (arrOf st) (n+1))
  (h:∀k st',Sta kd a₀ st'->1≤k->k≤m->SortedToK κ (arrOf st') k->Q (some k) st'):wpS (model prog w) A E s (descPart n m) Q st:=by
 refine wpS_bind (wpS_lift (wpAny_rule ⟨rfl,wpS_bind (AQ C hm (by lia) hn B hs fun k q st' B' k1 k2 r hq eq=>?_)⟩))
 show wpS _ _ _ _ (if q > 0 then _ else _) _ _
 rcases Nat.eq_zero_or_pos q with z|z
 ·rw[if_neg (by lia)]
  exact vf (n:=k) C hm (by lia) k2 B' r h
 ·rw[if_pos z]
  exact wpS_bind (wpS_reverse (vf (n:=k) C hm (by lia) k2 (B'.arr (mirror_perm _ _ _ _)) (pk (KK_mirror_equal (j:=k) (by rw[B'.sz];lia) eq) r) h))
theorem DH (C:Cmp prog w A E s κ kd a₀) {st:SortSt}{m:Nat}{Q:Option Nat->SortSt->Prop}(hm:m≤a₀.size) (h1:1≤m) (B:Sta kd a₀ st)
  (h:∀k st',Sta kd a₀ st'->1≤k->k≤m->SortedToK κ (arrOf st') k->Q (some k) st'):wpS (model prog w) A E s (countRun' 0 m) Q st:=by
 rw[countRun0_eq]
 refine wpS_bind (yi C hm (Nat.le_refl 1) h1 B rQ fun n n1 n2 r o=>?_)
 dsimp only
 rcases Nat.lt_or_ge n m with z|z
 case inr=>
  rw[if_pos (by simp;lia)]
  exact wpS_pure (h n st B n1 n2 r)
 rw[if_neg (by simp;lia)]
 have less:κ.klt (KK κ (arrOf st) n) (KK κ (arrOf st) (n-1)):=o.resolve_left (by lia)
 rcases Nat.lt_or_ge 1 n with y|y
 case inr=>
  rw[if_neg (by lia)]
  obtain rfl:n=1:=by lia
  exact vg C hm (by lia) B (jx zt (Nat.le_refl 1) (KeyOrd.kle_of_klt less)) h
 rw[if_pos y]
 refine wpS_bind (C _ _ _ _ B (by lia) (by lia) ?_)
 cases e:κ.blt (KK κ (arrOf st) 0) (KK κ (arrOf st) (n-1)) with
 | true=>exact wpS_pure (h n st B n1 n2 r)
 | false=>
  have all:∀k,0≤k->k<n->KK κ (arrOf st) k=KK κ (arrOf st) (n-1):=fun k _ hk=>
   KeyOrd.kle_antisymm (r k (n-1) (by lia) (by lia)) (KeyOrd.kle_trans (show κ.kle _ _ from e) (r 0 k (by lia) hk))
  have f1:NonIncK κ (arrOf st) n:=fun i j a b=>by
   rw[all i (by lia) (by lia),all j (by lia) b]
   exact KeyOrd.kle_refl _
  exact wpS_bind (wpS_reverse (vg C hm (by lia) (B.arr (mirror_perm _ _ _ _)) (pk (KK_mirror_equal (by rw[B.sz];lia) all) (jx f1 n1 (KeyOrd.kle_of_klt less))) h))
theorem zu {xs:Array Keyed}{k l:Nat}(h:SortedToK κ xs k) (hk:k<xs.size) (hl:l≤k) (lo:∀i,i<l->κ.kle (KK κ xs i) (KK κ xs k)) (hi:∀i,l≤i->i<k->κ.klt (KK κ xs k) (KK κ xs i)) :
  SortedToK κ (bubble xs k (k-l)) (k+1):=by
 have at_:∀i,i<k+1->KK κ (bubble xs k (k-l)) i=if i<l then KK κ xs i else if i=l then KK κ xs k else KK κ xs (i-1):=fun i hi'=>by
  rw[KK_bubble hk (by lia),show k-(k-l)=l by lia]
  rcases Nat.lt_trichotomy i l with z|z|z
  ·rw[if_neg (by lia),if_neg (by lia),if_pos z]
  ·rw[if_pos z,if_neg (by lia),if_pos z]
  ·rw[if_neg (by lia),if_pos (by lia),if_neg (by lia),if_neg (by lia)]
 intro i j h1 h2
 rw[at_ i (by lia),at_ j h2]
 rcases Nat.lt_trichotomy j l with z|z|z
 ·rw[if_pos (by lia),if_pos z]
  exact h i j h1 (by lia)
 ·rw[if_neg (show ¬j<l by lia),if_pos z]
  rcases Nat.lt_or_ge i l with y|y
  ·rw[if_pos y];exact lo i y
  ·rw[if_neg (by lia),if_pos (by lia)];exact KeyOrd.kle_refl _
 ·rw[if_neg (show ¬j<l by lia),if_neg (show ¬j=l by lia)]
  rcases Nat.lt_trichotomy i l with y|y|y
  ·rw[if_pos y];exact h i (j-1) (by lia) (by lia)
  ·rw[if_neg (by lia),if_pos y];exact KeyOrd.kle_of_klt (hi (j-1) (by lia) (by lia))
  ·rw[if_neg (by lia),if_neg (by lia)];exact h (i-1) (j-1) (by lia) (by lia)
theorem w5 (C:Cmp prog w A E s κ kd a₀) {st:SortSt}{n ok:Nat}{Q:Bool->SortSt->Prop}(hn:n≤a₀.size) (ho1:1≤ok) (hok:ok≤n) (B:Sta kd a₀ st) (hs:SortedToK κ (arrOf st) ok)
  (h:∀st',Sta kd a₀ st'->SortedToK κ (arrOf st') n->Q true st'):wpS (model prog w) A E s (binarySort' 0 n ok) Q st:=by
 rw[binarySort'_eq]
 simp only[Nat.zero_add]
 have m1:max ok 1=ok:=by lia
 rw[m1]
 refine wpS_bind (wpS_mono (wpS_forRange (fun k c st'=>c=(none,())∧Sta kd a₀ st'∧SortedToK κ (arrOf st') k) (Q:=fun c st'=>c=(none,())∧Sta kd a₀ st'∧SortedToK κ (arrOf st') n)
  (fun k c st' k1 k2 ⟨e,B',r⟩=>?step) (fun c st' ⟨e,B',r⟩=>?fin) ⟨rfl,B,hs⟩) fun c st' ⟨e,B',r⟩=>?post)
 case step=>
  subst e
  refine wpS_bind (wpS_mono (wpS_forRange (fun x c st2=>st2=st'∧∃l u,c=(none,l,u)∧l≤u∧u≤k∧u-l≤k-x∧(∀i,i<l->κ.kle (KK κ (arrOf st') i) (KK κ (arrOf st') k))∧∀i,u≤i->i<k->κ.klt (KK κ (arrOf st') k) (KK κ (arrOf st') i))
   (Q:=fun c st2=>st2=st'∧∃l u,c=(none,l,u)∧l≤k∧(∀i,i<l->κ.kle (KK κ (arrOf st') i) (KK κ (arrOf st') k))∧∀i,l≤i->i<k->κ.klt (KK κ (arrOf st') k) (KK κ (arrOf st') i))
   (fun x c st2 _ x2 ⟨e1,l,u,e2,p1,p2,p3,lo,hi⟩=>?istep) (fun c st2 ⟨e1,l,u,e2,p1,p2,p3,lo,hi⟩=>?ifin) ⟨rfl,0,k,rfl,by lia,by lia,by lia,fun i z=>by lia,fun i z1 z2=>by lia⟩) fun c st2 ⟨e1,l,u,e2,p1,lo,hi⟩=>?ipost)
  case istep=>
   subst e1 e2
   dsimp only
   rcases Nat.lt_or_ge l u with z|z
   case inr=>
    rw[if_pos z]
    obtain rfl:l=u:=by lia
    exact wpS_pure ⟨rfl,l,l,rfl,p2,lo,hi⟩
   rw[if_neg (by lia)]
   have mid:l≤(l+u) / 2∧(l+u) / 2<u:=by lia
   refine wpS_bind (C _ k ((l+u) / 2) _ B' (by lia) (by lia) ?_)
   cases e:κ.blt (KK κ (arrOf st2) k) (KK κ (arrOf st2) ((l+u) / 2)) with
   | true=>exact wpS_pure ⟨rfl,l,(l+u) / 2,rfl,by lia,by lia,by lia,lo,fun i z1 z2=>KeyOrd.klt_of_klt_of_kle e (r _ _ z1 z2)⟩
   | false=>exact wpS_pure ⟨rfl,(l+u) / 2+1,u,rfl,by lia,by lia,by lia,fun i z=>KeyOrd.kle_trans (r i ((l+u) / 2) (by lia) (by lia)) e,hi⟩
  case ifin=>
   subst e1 e2
   have z:max 0 k=k:=by lia
   rw[z] at p3
   obtain rfl:l=u:=by lia
   exact⟨rfl,l,l,rfl,p2,lo,hi⟩
  case ipost=>
   subst e1 e2
   show wpS _ _ _ _ (do moveDown' k l;pure (ForInStep.yield (none,()))) _ _
   rw[moveDown'_eq]
   exact wpS_bind (wpS_modify (wpS_pure ⟨rfl,B'.arr (bubble_perm _ _ _),zu r (by rw[B'.sz];lia) p1 lo hi⟩))
 case fin=>
  subst e
  have z:max ok n=n:=by lia
  rw[z] at r
  exact⟨rfl,B',r⟩
 case post=>
  subst e
  exact wpS_pure (h st' B' r)
theorem AR (C:Cmp prog w A E s κ kd a₀) {st:SortSt}{Q:Unit->SortSt->Prop}(B:Sta kd a₀ st) (h2:2≤a₀.size) (h64:a₀.size<64)
  (h:∀st',(arrOf st').Perm a₀->failedOf st'=none->SortedToK κ (arrOf st') a₀.size->Q () st'):wpS (model prog w) A E s sortRuns' Q st:=by
 let Fin:SortSt->Prop:=fun st'=>(arrOf st').Perm a₀∧failedOf st'=none∧pendingOf st'=#[(0,a₀.size,0)]∧SortedToK κ (arrOf st') a₀.size
 have fin:∀st',Sta kd a₀ st'->SortedToK κ (arrOf st') a₀.size->Fin (setPending st' ((pendingOf st').push (0,a₀.size,0))):=fun st' B' r=>⟨B'.perm,B'.failed,by show(pendingOf st').push _=_;rw[B'.pend];rfl,r⟩
 have mr:minRun' a₀.size a₀.size 0=a₀.size:=by
  obtain⟨f,hf⟩:∃f,a₀.size=f+1:=⟨a₀.size-1,by lia⟩
  have q:minRun' (f+1) a₀.size 0=a₀.size+0:=by rw[minRun'_succ,if_pos h64]
  rw[←hf] at q
  exact q
 rw[sortRuns'_eq]
 refine wpS_bind (wpS_get ?_)
 dsimp only
 simp only[B.sz,mr]
 refine wpS_bind (wpS_mono (wpS_forRange (fun x c st'=>(x=0∧c=(none,0)∧Sta kd a₀ st')∨(1≤x∧c=(none,a₀.size)∧Fin st')) (Q:=fun c st'=>c=(none,a₀.size)∧Fin st')
  (fun x c st' _ x2 o=>?step) (fun c st' o=>?fin) (.inl ⟨rfl,rfl,B⟩)) fun c st' ⟨e,F⟩=>?post)
 case step=>
  rcases o with⟨e0,e,B'⟩|⟨x1,e,F⟩
  ·subst e0 e
   dsimp only
   rw[if_neg (by lia)]
   simp only[Nat.sub_zero,Nat.min_self,Nat.zero_add]
   refine wpS_bind (DH C (Nat.le_refl _) (by lia) B' fun k st2 B2 k1 k2 r=>?_)
   dsimp only
   have go:∀st3,Sta kd a₀ st3->SortedToK κ (arrOf st3) a₀.size->(pendingOf st3).back?=none∧Fin (setPending st3 ((pendingOf st3).push (0,a₀.size,0))):=fun st3 B3 r3=>⟨by rw[B3.pend];rfl,fin st3 B3 r3⟩
   rcases Nat.lt_or_ge k a₀.size with z|z
   ·rw[if_pos z]
    refine wpS_bind (wpS_lift (wpAny_rule ⟨rfl,wpS_bind (w5 C (Nat.le_refl _) k1 k2 B2 r fun st3 B3 r3=>?_)⟩))
    simp only[Bool.not_true,Bool.false_eq_true,if_false]
    refine wpS_bind (wpS_get ?_)
    rw[(go st3 B3 r3).1]
    exact wpS_bind (wpS_modify (wpS_pure (.inr ⟨by lia,rfl,(go st3 B3 r3).2⟩)))
   ·rw[if_neg (by lia)]
    obtain rfl:k=a₀.size:=by lia
    refine wpS_bind (wpS_get ?_)
    rw[(go st2 B2 r).1]
    exact wpS_bind (wpS_modify (wpS_pure (.inr ⟨by lia,rfl,(go st2 B2 r).2⟩)))
  ·subst e
   dsimp only
   rw[if_pos (Nat.le_refl _)]
   exact wpS_pure ⟨rfl,F⟩
 case fin=>
  rcases o with⟨x0,_⟩|⟨_,e,F⟩
  ·lia
  ·exact⟨e,F⟩
 case post=>
  subst e
  refine wpS_bind (wpS_mono (wpS_forRange (fun _ c st2=>st2=st'∧c=(none,())) (Q:=fun c st2=>st2=st'∧c=(none,())) (fun x c st2 _ _ ⟨e1,e2⟩=>?istep) (fun _ _ q=>q) ⟨rfl,rfl⟩) fun c st2 ⟨e1,e2⟩=>?ipost)
  case istep=>
   subst e1 e2
   refine wpS_bind (wpS_get ?_)
   rw[if_pos (by rw[F.2.2.1];exact Nat.le_refl 1)]
   exact wpS_pure ⟨rfl,rfl⟩
  case ipost=>
   subst e1 e2
   exact wpS_pure (h _ F.1 F.2.1 F.2.2.2)
end
end L2
namespace L2
open PySem PySem.Spec PyProof.Rows
theorem kU:∀a:List Int,HT.bF a a=false
 | []=>rfl
 | x::a=>by rw[HT.dD,if_pos rfl];exact kU a
theorem iX:∀(a b c:List Int),HT.bF a b=true->HT.bF b c=true->HT.bF a c=true
 | [],[],_,h,_=>by cases h
 | [],_::_,[],_,h=>by cases h
 | [],_::_,_::_,_,_=>rfl
 | _::_,[],_,h,_=>by cases h
 | _::_,_::_,[],_,h=>by cases h
 | x::a,y::b,z::c,h1,h2=>by
  rw[HT.dD] at h1 h2 ⊢
  by_cases e1:x=y
  ·subst e1
   rw[if_pos rfl] at h1
   by_cases e2:x=z
   ·subst e2
    rw[if_pos rfl] at h2 ⊢
    exact iX a b c h1 h2
   ·rw[if_neg e2] at h2 ⊢
    exact h2
  ·rw[if_neg e1] at h1
   have h1:=of_decide_eq_true h1
   by_cases e2:y=z
   ·subst e2
    rw[if_neg e1]
    exact decide_eq_true h1
   ·rw[if_neg e2] at h2
    have h2:=of_decide_eq_true h2
    rw[if_neg (by lia)]
    exact decide_eq_true (by lia)
theorem iY:∀(a b:List Int),HT.bF a b=false->HT.bF b a=false->a=b
 | [],[],_,_=>rfl
 | [],_::_,h,_=>by cases h
 | _::_,[],_,h=>by cases h
 | x::a,y::b,h1,h2=>by
  rw[HT.dD] at h1 h2
  by_cases e:x=y
  ·subst e
   rw[if_pos rfl] at h1 h2
   rw[iY a b h1 h2]
  ·rw[if_neg e] at h1
   rw[if_neg (fun z=>e z.symm)] at h2
   have h1:=of_decide_eq_false h1
   have h2:=of_decide_eq_false h2
   lia
theorem zv (a b c:List Int) (h:HT.bF a c=true):HT.bF a b=true∨HT.bF b c=true:=by
 cases e:HT.bF a b with
 | true=>exact .inl rfl
 | false=>
  refine .inr ?_
  cases e2:HT.bF b a with
  | true=>exact iX b a c e2 h
  | false=>rw[←iY a b e e2];exact h
def fA (kf:Value->List Int):PyProof.Rows.KeyKind where
 α:=List Int
 blt:=HT.bF
 irrefl:=kU
 trans:=iX
 negTrans:=zv
 total:=iY
 keyOf:=fun v=>some (kf v)
 dflt:=[]
theorem pq {kf:Value->List Int}{xs:Array Keyed}{i:Nat}(h:i<xs.size):KK (fA kf) xs i=kf xs[i].1:=by
 unfold KK
 rw[getElem?_pos xs i h]
 rfl
section
variable {prog:Program}{w:World}{A:Around}{E:Value->Shared->Prop}{s:Shared}
theorem pz (f:Bool) (x y:Value):keyLt' (tuples' f) x y=(do
  let xs ←Builtin.List.listItems x;let ys ←Builtin.List.listItems y
  for ((p,q),i) in (xs.toList.zip ys.toList).zipIdx do
   if !(←eqBool p q) then return ←oneLt' (f&&i==0) p q
  return decide (xs.size<ys.size)):=rfl
theorem tP {f:Bool}{a b:Int}{t u:Tok}{Q:Bool->Shared->Prop}(h:Q (decide (a<b)) s):wpAny (model prog w) A (oneLt' f (.int a t) (.int b u)) Q E s:=by
 cases f with
 | true=>exact oneLt_int h
 | false=>
  rw[oneLt'_eq]
  simp only[Bool.false_eq_true,if_false]
  exact wpAny_bind (lt_int (wpAny_truthy_bool h))
abbrev AS (v:Value) (k:Int):Prop:=∃t,v=Value.int k t
theorem w6 {f:Bool}{ks ks':List Int}{a b:Addr}{Q:Bool->Shared->Prop}(x:bB s.heap ks a) (y:bB s.heap ks' b) (h:Q (HT.bF ks ks') s):wpAny (model prog w) A (keyLt' (tuples' f) (.ref a) (.ref b)) Q E s:=by
 obtain⟨xs,⟨o,e,_,n,d⟩,r⟩:=x
 obtain⟨ys,⟨o',e',_,n',d'⟩,r'⟩:=y
 rw[pz]
 refine wpAny_bind (listItems_at e d (wpAny_bind (listItems_at e' d' (wpAny_bind ?_))))
 refine wpAny_forIn_list _ (fun rest r s'=>r.1=none∧s'=s∧∃(x' y':List Int) (us vs:List Value) (i:Nat),rest=(us.zip vs).zipIdx i∧Paired AS us x'∧Paired AS vs y'∧HT.bF x' y'=HT.bF ks ks'∧decide (us.length<vs.length)=decide (xs.size<ys.size))
  _ ?turn ?fin _ _ ⟨rfl,rfl,ks,ks',xs.toList,ys.toList,0,rfl,r,r',rfl,by simp⟩
 case turn=>
  rintro⟨⟨p,q⟩,j⟩ rest c s' ⟨_,e1,x',y',us,vs,i,e2,p1,p2,le,ll⟩
  subst e1
  cases p1 with
  | nil=>simp at e2
  | @cons u k us' x'' hu p1'=>
   cases p2 with
   | nil=>simp at e2
   | @cons v k' vs' y'' hv p2'=>
    rw[List.zip_cons_cons,List.zipIdx_cons] at e2
    injection e2 with e3 e4
    cases e3
    obtain⟨t,rfl⟩:=hu
    obtain⟨t',rfl⟩:=hv
    rw[HT.dD] at le
    refine wpAny_bind (wpAny_eqBool_int ?_)
    by_cases z:k=k'
    ·subst z
     rw[if_pos rfl] at le
     rw[if_neg (by simp)]
     exact wpAny_pure ⟨rfl,rfl,x'',y'',us',vs',_,e4,p1',p2',le,by rw[←ll];simp⟩
    ·rw[if_neg z] at le
     rw[if_pos (by simpa using z)]
     refine wpAny_bind (tP ?_)
     rw[le]
     exact wpAny_pure (wpAny_pure h)
 case fin=>
  rintro⟨c1,c2⟩ s' ⟨e0,e1,x',y',us,vs,i,e2,p1,p2,le,ll⟩
  simp only at e0
  subst e0 e1
  have z:decide (xs.size<ys.size)=HT.bF ks ks':=by
   rw[←le,←ll]
   cases p1 with
   | nil=>cases p2 with
    | nil=>rfl
    | cons _ _=>simp[HT.lJ]
   | cons _ _=>cases p2 with
    | nil=>simp[HT.lK]
    | cons _ _=>rw[List.zip_cons_cons,List.zipIdx_cons] at e2;cases e2
  show wpAny _ _ (pure (decide (xs.size<ys.size))) _ _ _
  rw[z]
  exact wpAny_pure h
noncomputable def cb (h:Heap) (v:Value):List Int:=@dite (List Int) (∃ks,∃a,v=.ref a∧bB h ks a) (Classical.propDecidable _) (fun z=>Classical.choose z) fun _=>[]
theorem eZ {h:Heap}{ks:List Int}{a:Addr}(x:bB h ks a):cb h (.ref a)=ks:=by
 have z:∃ks,∃b,Value.ref a=.ref b∧bB h ks b:=⟨ks,a,rfl,x⟩
 unfold cb
 rw[dif_pos z]
 obtain⟨b,e,q⟩:=Classical.choose_spec z
 cases e
 exact q.inj x
abbrev iZ (h:Heap) (v:Value) (ks:List Int):Prop:=∃a,v=Value.ref a∧bB h ks a
theorem vh {h:Heap}:∀{vs:List Value}{kss:List (List Int)},Paired (iZ h) vs kss->vs.map (cb h)=kss
 | _,_,.nil=>rfl
 | _,_,.cons ⟨a,e,x⟩ t=>by rw[List.map_cons,vh t,e,eZ x]
theorem zw {f:Bool}{vs:List Value}{kss:List (List Int)}(p:Paired (iZ s.heap) vs kss):Cmp prog w A E s (fA (cb s.heap)) (tuples' f) (pairsOf vs):=by
 intro st i j Q B hi hj h
 have at_:∀k,(hk:k<(pairsOf vs).size)->∃v b ks,(arrOf st)[k]?=some (v,b)∧iZ s.heap v ks∧KK (fA (cb s.heap)) (arrOf st) k=ks:=fun k hk=>by
  have hk':k<(arrOf st).size:=by rw[B.sz];exact hk
  have hm:(arrOf st)[k]∈(pairsOf vs).toList:=(Array.perm_iff_toList_perm.mp B.perm).mem_iff.mp (by simp)
  rw[pairsOf_toList] at hm
  have hv:=(mem_zip_self hm).2
  obtain⟨ks,_,a,e,x⟩:=eP p _ hv
  refine⟨(arrOf st)[k].1,(arrOf st)[k].2,ks,Array.getElem?_eq_getElem hk',⟨a,e,x⟩,?_⟩
  rw[pq hk',e,eZ x]
 obtain⟨v1,b1,k1,e1,⟨a1,rfl,x1⟩,q1⟩:=at_ i hi
 obtain⟨v2,b2,k2,e2,⟨a2,rfl,x2⟩,q2⟩:=at_ j hj
 rw[q1,q2] at h
 rw[ltAt'_eq]
 refine wpS_bind (wpS_get ?_)
 show wpS _ _ _ _ (do let x ←elem' (arrOf st) i;let y ←elem' (arrOf st) j;lt' x y) Q st
 rw[elem'_eq,elem'_eq,e1,e2]
 refine wpS_bind (wpS_pure (wpS_bind (wpS_pure ?_)))
 rw[lt'_eq]
 refine wpS_bind (wpS_get ?_)
 rw[B.kind]
 exact wpS_bind (wpS_lift (wpAny_attempt (w6 x1 x2 ⟨rfl,wpS_pure h⟩)))
theorem rR {α β:Type}{f:α->Sem β}{R:α->β->Prop}{M:Model}:∀(l:List α) {Q:List β->Shared->Prop},(∀v∈l,∀Q':β->Shared->Prop,(∀b,R v b->Q' b s)->wpAny M A (f v) Q' E s)->(∀bs,Paired R l bs->Q bs s)->wpAny M A (l.mapM f) Q E s
 | [],Q,_,h=>by rw[List.mapM_nil];exact wpAny_pure (h [] .nil)
 | a::l,Q,hf,h=>by
  rw[List.mapM_cons]
  refine wpAny_bind (hf a List.mem_cons_self _ fun b hb=>?_)
  exact wpAny_bind (rR l (fun v hv=>hf v (List.mem_cons_of_mem _ hv)) fun bs hbs=>wpAny_pure (h _ (.cons hb hbs)))
theorem xa (v:Value):firstOfTuple' v=(do
  if (←typeOf v) != .type "tuple" then return none
  return (←Builtin.List.listItems v)[0]?):=rfl
theorem xf {ks:List Int}{a:Addr}{Q:Option Value->Shared->Prop}(x:bB s.heap ks a) (hne:ks≠[]) (h:∀k t,Q (some (.int k t)) s):wpAny (model prog w) A (firstOfTuple' (.ref a)) Q E s:=by
 obtain⟨xs,tp,r⟩:=x
 have hT:=eO tp
 obtain⟨o,e,c,n,d⟩:=tp
 rw[xa]
 refine wpAny_bind (wpAny_typeOf hT ?_)
 rw[if_neg (by simp)]
 refine wpAny_bind (listItems_at e d (wpAny_pure ?_))
 cases ks with
 | nil=>exact absurd rfl hne
 | cons k ks=>
  obtain⟨v,e1,t,e2⟩:=io (i:=0) (b:=k) r rfl
  have:xs[0]?=some v:=by rw[←Array.getElem?_toList];exact e1
  rw[this,e2]
  exact h k t
theorem rS:∀{l:List Value}{fs:List (Option Value)},Paired (fun _ o=>∃k t,o=some (Value.int k t)) l fs->fs.all (·.isSome)=true∧∃ns,IntsAre (fs.filterMap id) ns∧ns.length=l.length
 | _,_,.nil=>⟨rfl,[],.nil,rfl⟩
 | _,_,.cons ⟨k,t,e⟩ r=>by
  obtain⟨h1,ns,h2,h3⟩:=rS r
  subst e
  exact⟨by simpa using h1,k::ns,.cons k t h2,by simp[h3]⟩
theorem xg {v₁ v₂:Value}{vs:List Value}{kss:List (List Int)}{Q:SortKind->Shared->Prop}(p:Paired (iZ s.heap) (v₁::v₂::vs) kss) (hne:∀ks∈kss,ks≠[]) (h:Q (tuples' true) s) :
  wpAny (model prog w) A (keyKind' (v₁::v₂::vs).toArray) Q E s:=by
 rw[keyKind'_eq,List.mapM_toArray]
 refine wpAny_bind (wpAny_map (rR (R:=fun _ o=>∃k t,o=some (Value.int k t)) _ (fun v hv Q' q=>?_) fun fs hfs=>?_))
 ·obtain⟨ks,hk,a,e,x⟩:=eP p v hv
  subst e
  exact xf x (hne ks hk) fun k t=>q _ ⟨k,t,rfl⟩
 ·obtain⟨h1,ns,h2,h3⟩:=rS hfs
  rw[if_pos (by simpa using h1)]
  refine wpAny_bind (wpAny_rule ?_)
  rw[oneTypeOnly'_eq]
  have e:(List.toArray fs).filterMap id=(fs.filterMap id).toArray:=by simp
  rw[e,List.mapM_toArray,mapM_typeOf_ints h2]
  simp only[map_pure,pure_bind]
  cases z:fs.filterMap id with
  | nil=>
   rw[z] at h2
   cases h2
   simp at h3
  | cons f0 fr=>
   have z0:(List.map (fun _=>Value.type "int") (f0::fr)).toArray[0]?=some (Value.type "int"):=by simp
   have z1:((List.map (fun _=>Value.type "int") (f0::fr)).toArray.all fun x=>x==Value.type "int")=true:=by
    simp only[List.all_toArray,List.all_map,List.all_eq_true]
    intro _ _
    rfl
   rw[z0]
   simp only[z1,if_true,pure_bind]
   exact wpAny_pure h
end
end L2
namespace L2
open PySem PySem.Spec PyProof.Rows
abbrev pA (kss:List (List Int)):Prop:=kss.Pairwise fun a b=>HT.bF b a=false
section
variable {prog:Program}{w:World}{A:Around}{E:Value->Shared->Prop}{s:Shared}
theorem rT {h h':Heap}{a d:Addr}{o:Obj}{ks:List Int}(x:bB h ks a) (ho:h.get? d=some o) (hc:o.cls≠.type "tuple") (k:∀b u,b≠d->h.get? b=some u->h'.get? b=some u):bB h' ks a:=by
 obtain⟨i,⟨o',e,c,n,d'⟩,r⟩:=x
 refine⟨i,⟨o',k a o' ?_ e,c,n,d'⟩,r⟩
 rintro rfl
 rw[e] at ho
 cases ho
 exact hc c
theorem zx {h:Heap}{vs:List Value}{xs:Array Keyed}(hp:xs.Perm (pairsOf vs)) (hs:SortedToK (fA (cb h)) xs (pairsOf vs).size):(xs.map (·.2)).toList.Perm vs∧pA ((xs.map (·.2)).toList.map (cb h)):=by
 have same:∀q∈xs.toList,q.1=q.2:=fun q hq=>(mem_zip_self (by rw[←pairsOf_toList];exact(Array.perm_iff_toList_perm.mp hp).mem_iff.mp hq)).1
 have e1:(xs.map (·.2)).toList=xs.toList.map (·.2):=by simp
 have e2:(pairsOf vs).toList.map (·.2)=vs:=by
  rw[pairsOf_toList]
  exact List.map_snd_zip (by simp)
 refine⟨?_,?_⟩
 ·rw[e1]
  have:=(Array.perm_iff_toList_perm.mp hp).map (·.2)
  rw[e2] at this
  exact this
 ·rw[e1,List.map_map]
  unfold pA
  rw[List.pairwise_iff_getElem]
  intro i j hi hj hij
  rw[List.length_map] at hi hj
  have hi':i<xs.size:=by simpa using hi
  have hj':j<xs.size:=by simpa using hj
  have z:=hs i j (by lia) (by rw[←hp.size_eq];exact hj')
  have z:HT.bF (KK (fA (cb h)) xs j) (KK (fA (cb h)) xs i)=false:=z
  rw[pq hi',pq hj'] at z
  have s1:=same xs[i] (by simp)
  have s2:=same xs[j] (by simp)
  rw[s1,s2] at z
  simpa using z
theorem xh {a:Addr}{vs:List Value}{kss:List (List Int)}{n:Nat}{P:Fin->Shared->Prop}(ho:s.heap.get? a=some (seqObj "list" vs.toArray n)) (p:Paired (iZ s.heap) vs kss) (hne:∀ks∈kss,ks≠[]) (h64:vs.length<64)
  (h:∀out:Array Value,out.toList.Perm vs->pA (out.toList.map (cb s.heap))->P (.done (.ret .none)) { s with heap:=sortedHeap s.heap a vs out }):wpAny (model prog w) A (Builtin.«list.sort» ⟨[.ref a],[]⟩) P E s:=by
 have lt:a<s.heap.objs.size:=Heap.lt_size ho
 obtain⟨e1,o1⟩:∃e1,(s.heap.update a (Obj.mapSeq fun _=>#[])).get? a=some (seqObj "list" #[] e1):=⟨_,get?_update_seq ho _⟩
 have o2:(((s.heap.update a (Obj.mapSeq fun _=>#[])).push (seqObj "tuple" vs.toArray 0)).push (seqObj "list" #[] 0)).get? a=some (seqObj "list" #[] e1):=Heap.get?_push_of_some _ (Heap.get?_push_of_some _ o1)
 have keep:∀b u,b≠a->s.heap.get? b=some u->(((s.heap.update a (Obj.mapSeq fun _=>#[])).push (seqObj "tuple" vs.toArray 0)).push (seqObj "list" #[] 0)).get? b=some u:=fun b u hb q=>
  Heap.get?_push_of_some _ (Heap.get?_push_of_some _ ((Heap.get?_update_other _ _ (Ne.symm hb)).trans q))
 have p':Paired (iZ (((s.heap.update a (Obj.mapSeq fun _=>#[])).push (seqObj "tuple" vs.toArray 0)).push (seqObj "list" #[] 0))) vs kss:=aJ (fun _ _ ⟨b,e,x⟩=>⟨b,e,rT x ho (by simp) keep⟩) p
 have kf:∀v∈vs,cb (((s.heap.update a (Obj.mapSeq fun _=>#[])).push (seqObj "tuple" vs.toArray 0)).push (seqObj "list" #[] 0)) v=cb s.heap v:=fun v hv=>by
  obtain⟨ks,_,b,e,x⟩:=eP p v hv
  rw[e,eZ x,eZ (rT x ho (by simp) keep)]
 have fin:∀xs:Array Keyed,xs.Perm (pairsOf vs)->SortedToK (fA (cb (((s.heap.update a (Obj.mapSeq fun _=>#[])).push (seqObj "tuple" vs.toArray 0)).push (seqObj "list" #[] 0)))) xs (pairsOf vs).size->
   P (.done (.ret .none)) { s with heap:=sortedHeap s.heap a vs (xs.map (·.2)) }:=fun xs hp hs=>by
  obtain⟨q1,q2⟩:=zx hp hs
  refine h _ q1 ?_
  have e:(xs.map (·.2)).toList.map (cb s.heap)=(xs.map (·.2)).toList.map (cb (((s.heap.update a (Obj.mapSeq fun _=>#[])).push (seqObj "tuple" vs.toArray 0)).push (seqObj "list" #[] 0))):=
   List.map_congr_left fun v hv=>(kf v (q1.mem_iff.mp hv)).symm
  rw[e]
  exact q2
 have sz:∀xs:Array Keyed,xs.Perm (pairsOf vs)->((fun(_:Array Value)=>xs.map (·.2)) #[]).size≤sizeLine+1:=fun xs hp=>by
  show(xs.map (·.2)).size≤_
  rw[Array.size_map,hp.size_eq,pairsOf_size,sizeLine_eq]
  lia
 rw[list_sort_plain]
 refine wpAny_bind (listItems_at ho rfl (wpAny_bind (listUpdate_at ho rfl (wpAny_bind (seqEpoch_at o1 rfl (wpAny_bind (wpAny_newTuple (wpAny_bind (wpAny_newList (wpAny_holding ?_)))))) ) ?_ ?_)))
 case refine_2=>rw[List.size_toArray,sizeLine_eq];lia
 case refine_3=>show(#[]:Array Value).size≤_;simp
 show wpAny (model prog w) A _ P E { s with heap:=((s.heap.update a (Obj.mapSeq fun _=>#[])).push (seqObj "tuple" vs.toArray 0)).push (seqObj "list" #[] 0) }
 dsimp only
 by_cases h2:vs.toArray.size<2
 ·rw[if_pos h2,if_pos h2]
  refine wpAny_bind (wpAny_pure ?_)
  rw[StateT.run_pure]
  refine wpAny_bind (wpAny_pure (wpAny_bind (seqEpoch_at o2 rfl (wpAny_bind (listUpdate_at o2 rfl ?_ (Nat.zero_le _) (sz (pairsOf vs) (Array.Perm.refl _)))))))
  simp only[bne_self_eq_false,Bool.false_eq_true,if_false]
  refine wpAny_pure (fin (pairsOf vs) (Array.Perm.refl _) fun i j h1 h3=>?_)
  rw[pairsOf_size] at h3
  have h2:vs.length<2:=by simpa using h2
  obtain rfl:i=j:=by lia
  exact KeyOrd.kle_refl _
 ·rw[if_neg h2,if_neg h2]
  have h2:2≤vs.length:=by simpa using h2
  obtain⟨v₁,v₂,rest,rfl⟩:∃v₁ v₂ rest,vs=v₁::v₂::rest:=by
   match vs,h2 with
   | [],h2=>simp at h2
   | [_],h2=>simp at h2
   | v₁::v₂::rest,_=>exact⟨v₁,v₂,rest,rfl⟩
  refine wpAny_bind (xg (s:={ s with heap:=((s.heap.update a (Obj.mapSeq fun _=>#[])).push (seqObj "tuple" (v₁::v₂::rest).toArray 0)).push (seqObj "list" #[] 0) }) p' hne ?_)
  refine wpAny_bind (wpAny_mono (AR (zw p') (st:=SortSt.mk' (tuples' true) ((v₁::v₂::rest).toArray.zip (v₁::v₂::rest).toArray) #[] 7 none)
   (Q:=fun _ st'=>(arrOf st').Perm (pairsOf (v₁::v₂::rest))∧failedOf st'=none∧SortedToK (fA (cb _)) (arrOf st') (pairsOf (v₁::v₂::rest)).size)
   ⟨Array.Perm.refl _,rfl,rfl,rfl⟩ (by rw[pairsOf_size];exact h2) (by rw[pairsOf_size];exact h64) fun st' a1 a2 a3=>⟨a1,a2,a3⟩) ?_ fun _ _ e=>e)
  rintro⟨⟨⟩,st'⟩ s' ⟨rfl,hp,hf,hs⟩
  dsimp only
  refine wpAny_bind (seqEpoch_at o2 rfl (wpAny_bind (listUpdate_at o2 rfl ?_ (Nat.zero_le _) (sz (arrOf st') hp))))
  rw[hf]
  simp only[bne_self_eq_false,Bool.false_eq_true,if_false]
  exact wpAny_pure (fin (arrOf st') hp hs)
theorem rf {l:Addr}{vs:List Value}{kss:List (List Int)}{Q:Value->Shared->Prop}(hl:s.heap.IsList l vs.toArray) (p:Paired (iZ s.heap) vs kss) (hne:∀ks∈kss,ks≠[]) (h64:vs.length<64)
  (h:∀out:Array Value,out.toList.Perm vs->pA (out.toList.map (cb s.heap))->Q (.ref (s.heap.objs.size+1)) { s with heap:=sortedAll s.heap vs out }):wpAny (model prog w) A (call (.builtin "sorted") [.ref l]) Q E s:=by
 refine Calls.call_function_entry kind_sorted plain_sorted entry_sorted (args_sorted1 _) ?_
 have hz:((s.heap.push (seqObj "list" #[] 0)).update s.heap.objs.size (Obj.mapSeq (·++vs.toArray))).objs.size=s.heap.objs.size+1:=by rw[Heap.size_update,size_push']
 have hL:(((s.heap.push (seqObj "list" #[] 0)).update s.heap.objs.size (Obj.mapSeq (·++vs.toArray))).push (seqObj "list" vs.toArray 0)).get? (s.heap.objs.size+1)=some (seqObj "list" vs.toArray 0):=by
  rw[←hz]
  exact Heap.get?_push_size _ rfl
 have kp:∀b u,s.heap.get? b=some u->(((s.heap.push (seqObj "list" #[] 0)).update s.heap.objs.size (Obj.mapSeq (·++vs.toArray))).push (seqObj "list" vs.toArray 0)).get? b=some u:=fun b u q=>
  Heap.get?_push_of_some _ ((Heap.get?_update_other _ _ (Nat.ne_of_gt (Heap.lt_size q))).trans (Heap.get?_push_of_some _ q))
 have up:∀{ks:List Int}{b:Addr},bB s.heap ks b->bB (((s.heap.push (seqObj "list" #[] 0)).update s.heap.objs.size (Obj.mapSeq (·++vs.toArray))).push (seqObj "list" vs.toArray 0)) ks b:=fun⟨i,⟨o,e,c,n,d⟩,r⟩=>⟨i,⟨o,kp _ _ e,c,n,d⟩,r⟩
 unfold Builtin.«sorted»
 refine wpAny_bind (m:=checkCount "sorted" 1 1 _) (wpAny_pure (wpAny_bind (collect_list hl (wpAny_bind (wpAny_newList ?_)) (by rw[sizeLine_eq];lia))))
 show wpAny _ _ _ _ _ { s with heap:=((s.heap.push (seqObj "list" #[] 0)).update s.heap.objs.size (Obj.mapSeq (·++vs.toArray))).push (seqObj "list" vs.toArray 0) }
 rw[hz]
 refine wpAny_bind (wpAny_holding (wpAny_call_entry PyProof.Rows.slot_list_sort ⟨_,hL,rfl⟩ PyProof.Rows.entry_list_sort (xh hL (aJ (fun _ _ ⟨b,e,x⟩=>⟨b,e,up x⟩) p) hne h64 fun out q1 q2=>⟨_,rfl,wpAny_pure ⟨_,rfl,h out q1 ?_⟩⟩) (args_list_sort _)))
 have e:out.toList.map (cb s.heap)=out.toList.map (cb (((s.heap.push (seqObj "list" #[] 0)).update s.heap.objs.size (Obj.mapSeq (·++vs.toArray))).push (seqObj "list" vs.toArray 0))):=List.map_congr_left fun v hv=>by
  obtain⟨ks,_,b,e,x⟩:=eP p v (q1.mem_iff.mp hv)
  rw[e,eZ x,eZ (up x)]
 rw[e]
 exact q2
end
section
variable {X:Cx}
def toV:Value->V
 | .ref a=>.ref a
 | _=>.non
theorem rg {h:Heap}{K:W.Frag}{H:Hp}(f:∀a ks,aK.rep K H (.ref a) ks->bB h ks a) {as:List V}{its:List Value}{kss:List (List Int)}(r:av as its) (p:Paired (aK.rep K H) as kss) :
  Paired (iZ h) its kss∧∀v∈its,∃a ks,v=.ref a∧aK.rep K H (.ref a) ks∧cb h v=ks:=by
 have q:Paired (fun v ks=>∃a,v=Value.ref a∧aK.rep K H (.ref a) ks) its kss:=kT (F:=az) (G:=aK.rep K H) (fun x u ks h1 h2=>by
  obtain⟨a,xs,e,q⟩:=id h2
  subst e
  cases h1
  exact⟨a,rfl,h2⟩) r p
 refine⟨aJ (fun _ _ ⟨a,e,z⟩=>⟨a,e,f a _ z⟩) q,fun v hv=>?_⟩
 obtain⟨ks,_,a,e,z⟩:=eP q v hv
 exact⟨a,ks,e,z,by rw[e];exact eZ (f a ks z)⟩
theorem pB:cm X (.builtin "sorted") (fun xs H Q=>∃(y:V) (kss:List (List Int)),xs=[y]∧(tM aK).rep X.K H y kss∧(∀ks∈kss,ks≠[])∧kss.length<64∧
  ∀(l:Addr) (as':List V) (kss':List (List Int)),H l=none->Paired (aK.rep X.K H) as' kss'->kss'.Perm kss->pA kss'->Q (.ref l) (upd H l (.lst as'))):=by
 intro aa s σ H xs us Q I r h
 obtain⟨y,kss,rfl,⟨p,as,e,hp,hd⟩,hne,h64,q⟩:=h
 subst e
 obtain⟨u,rfl,ru⟩:=dB r
 cases ru
 obtain⟨its,rv,pl,hz⟩:=I.list hp
 have hl:=rv.length
 have hl2:=hd.length
 obtain⟨pt,back⟩:=rg (h:=s.heap) (fun a ks z=>yh I z) rv hd
 refine rf pl.isList pt hne (by lia) fun out q1 q2=>?_
 obtain⟨e,he⟩:=sortedAll_at s.heap its out
 have hfresh:H (s.heap.objs.size+1)=none:=I.hok.fresh (Nat.le_succ _)
 have each:∀v∈out.toList,∃a ks,v=.ref a∧aK.rep X.K H (.ref a) ks∧cb s.heap v=ks:=fun v hv=>back v (q1.mem_iff.mp hv)
 have mk:∀l:List Value,(∀v∈l,∃a ks,v=.ref a∧aK.rep X.K H (.ref a) ks∧cb s.heap v=ks)->av (l.map toV) l∧Paired (aK.rep X.K H) (l.map toV) (l.map (cb s.heap)):=by
  intro l
  induction l with
  | nil=>intro _;exact⟨.nil,.nil⟩
  | cons v l ih=>
   intro hl
   obtain⟨i1,i2⟩:=ih fun u hu=>hl u (List.mem_cons_of_mem _ hu)
   obtain⟨a,ks,e1,e2,e3⟩:=hl v List.mem_cons_self
   subst e1
   exact⟨.cons rfl i1,.cons (by rw[e3];exact e2) i2⟩
 obtain⟨v1,v2⟩:=mk out.toList each
 have hkf:its.map (cb s.heap)=kss:=vh pt
 have hlen:out.toList.length=its.length:=q1.length_eq
 refine⟨.ref (s.heap.objs.size+1),_,I.laid (t':=s.toks) (o:=.lst (out.toList.map toV)) (fun b o z=>sortedAll_old z) (Nat.le_succ _) ⟨by rw[List.length_map,sizeLine_eq];lia,out.toList,e,v1,by simpa [seqObj] using he⟩,rfl,
  q _ _ _ hfresh v2 (by rw[←hkf];exact q1.map _) q2⟩
end
end L2
namespace Sa
open PySem PySem.SetTable
def stand (t:SetTable) (h:Int):Nat->Probe
 | 0=>t.probeStart h
 | n+1=>t.advance (stand t h n)
theorem AU {t u:SetTable}(e:t.mask=u.mask) (p:Probe):t.advance p=u.advance p:=by
 unfold advance
 rw[e]
theorem j0 {t u:SetTable}(e:t.mask=u.mask) (h:Int):∀n,stand t h n=stand u h n
 | 0=>by unfold stand probeStart;rw[e]
 | n+1=>by unfold stand;rw[j0 e h n,AU e]
theorem stand_dummy (t:SetTable) (h:Int):∀n,(stand t h n).dummy=none
 | 0=>rfl
 | n+1=>by
  have ih:=stand_dummy t h n
  unfold stand advance
  split
  ·exact ih
  ·exact ih
def aH (mask:Nat) (h:Int):Nat->Nat×Nat
 | 0=>(bits h % (mask+1),bits h)
 | r+1=>leap mask (aH mask h r).1 (aH mask h r).2
def bC (mask:Nat) (h:Int):Nat->Nat
 | 0=>0
 | r+1=>bC mask h r+(runEnd mask (aH mask h r).1-(aH mask h r).1)+1
theorem i4 (mask i:Nat):i≤runEnd mask i∧runEnd mask i≤i+9:=by
 unfold runEnd
 split <;> lia
theorem mK (mask:Nat) (h:Int):∀r,bC mask h r≤10*r
 | 0=>Nat.le_refl _
 | r+1=>by
  have ih:=mK mask h r
  have:=i4 mask (aH mask h r).1
  unfold bC
  lia
theorem dq (t:SetTable) (h:Int):∀r k,k≤runEnd t.mask (aH t.mask h r).1-(aH t.mask h r).1->
  stand t h (bC t.mask h r+k)={ j:=(aH t.mask h r).1+k,more:=runEnd t.mask (aH t.mask h r).1-(aH t.mask h r).1-k,i:=(aH t.mask h r).1,perturb:=(aH t.mask h r).2,dummy:=none }
 | 0,0,_=>rfl
 | r+1,0,_=>by
  have ih:=dq t h r (runEnd t.mask (aH t.mask h r).1-(aH t.mask h r).1) (Nat.le_refl _)
  have e:bC t.mask h (r+1)+0=(bC t.mask h r+(runEnd t.mask (aH t.mask h r).1-(aH t.mask h r).1))+1:=rfl
  rw[e]
  show t.advance (stand t h _)=_
  rw[ih]
  unfold advance
  simp only[Nat.sub_self,Nat.lt_irrefl,gt_iff_lt,if_false]
  rfl
 | r,k+1,hk=>by
  have ih:=dq t h r k (by lia)
  have e:bC t.mask h r+(k+1)=(bC t.mask h r+k)+1:=rfl
  rw[e]
  show t.advance (stand t h _)=_
  rw[ih]
  unfold advance
  have z:runEnd t.mask (aH t.mask h r).1-(aH t.mask h r).1-k > 0:=by lia
  simp only[z,if_true]
  congr 1
theorem rh (t:SetTable) (h:Int) (r:Nat):(stand t h (bC t.mask h r)).j=(aH t.mask h r).1:=by
 have:=dq t h r 0 (Nat.zero_le _)
 rw[Nat.add_zero] at this
 rw[this]
 rfl
def nx (mask i:Nat):Nat:=(i*5+1) % (mask+1)
def itr (mask:Nat):Nat->Nat->Nat
 | 0,i=>i
 | n+1,i=>itr mask n (nx mask i)
theorem gS (mask:Nat):∀a b i,itr mask (a+b) i=itr mask b (itr mask a i)
 | 0,b,i=>by rw[Nat.zero_add];rfl
 | a+1,b,i=>by
  rw[show a+1+b=(a+b)+1 by lia]
  show itr mask (a+b) (nx mask i)=itr mask b (itr mask a (nx mask i))
  exact gS mask a b _
def orb (mask:Nat):Nat->Nat->List Nat
 | 0,_=>[]
 | n+1,i=>i::orb mask n (nx mask i)
theorem lT (mask:Nat):∀n i j,j∈orb mask n i->∃k,k<n∧itr mask k i=j
 | 0,_,_,h=>by cases h
 | n+1,i,j,h=>by
  rcases List.mem_cons.mp h with rfl|h
  ·exact⟨0,by lia,rfl⟩
  ·obtain⟨k,hk,e⟩:=lT mask n _ j h
   exact⟨k+1,by lia,e⟩
def Mk (mask:Nat):Prop:=mask=7∨mask=31∨mask=127∨mask=15∨mask=63∨mask=255
theorem DJ {mask:Nat}(h:Mk mask):itr mask (mask+1) 0=0∧∀j,j<mask+1->j∈orb mask (mask+1) 0:=by
 rcases h with rfl|rfl|rfl|rfl|rfl|rfl <;> decide +kernel
theorem reach {mask i j:Nat}(h:Mk mask) (hi:i<mask+1) (hj:j<mask+1):∃k,k<mask+1∧itr mask k i=j:=by
 obtain⟨c0,c⟩:=DJ h
 obtain⟨a,ha,ea⟩:=lT _ _ _ _ (c i hi)
 obtain⟨b,hb,eb⟩:=lT _ _ _ _ (c j hj)
 rcases Nat.lt_or_ge b a with z|z
 ·refine⟨b+(mask+1)-a,by lia,?_⟩
  have:itr mask (a+(b+(mask+1)-a)) 0=j:=by
   rw[show a+(b+(mask+1)-a)=(mask+1)+b by lia,gS,c0,eb]
  rw[gS,ea] at this
  exact this
 ·refine⟨b-a,by lia,?_⟩
  have:itr mask (a+(b-a)) 0=j:=by rw[show a+(b-a)=b by lia,eb]
  rw[gS,ea] at this
  exact this
theorem rV (mask:Nat) (h:Int):∀r,(aH mask h r).1<mask+1
 | 0=>Nat.mod_lt _ (Nat.succ_pos _)
 | r+1=>Nat.mod_lt _ (Nat.succ_pos _)
theorem mL (mask:Nat) (h:Int):∀r,(aH mask h r).2=bits h / 32 ^ r
 | 0=>by show bits h=_;rw[Nat.pow_zero,Nat.div_one]
 | r+1=>by
  show(aH mask h r).2 / 32=_
  rw[mL mask h r,Nat.div_div_eq_div_mul,Nat.pow_succ]
theorem zy (h:Int):bits h<2 ^ 64:=by
 unfold bits
 have h1:=Int.emod_nonneg h (show(2 ^ 64:Int)≠0 by decide)
 have h2:=Int.emod_lt_of_pos h (show(0:Int)<2 ^ 64 by decide)
 lia
theorem vi (mask:Nat) (h:Int) {r:Nat}(hr:13≤r):(aH mask h r).2=0:=by
 rw[mL]
 refine Nat.div_eq_of_lt (Nat.lt_of_lt_of_le (zy h) ?_)
 exact Nat.le_trans (show 2 ^ 64≤32 ^ 13 by decide) (Nat.pow_le_pow_right (by decide) hr)
theorem pC (mask:Nat) (h:Int):∀q,(aH mask h (13+q)).1=itr mask q (aH mask h 13).1
 | 0=>rfl
 | q+1=>by
  have e:itr mask (q+1) (aH mask h 13).1=nx mask (itr mask q (aH mask h 13).1):=by rw[gS];rfl
  rw[e,←pC mask h q]
  show(leap mask (aH mask h (13+q)).1 (aH mask h (13+q)).2).1=_
  rw[vi mask h (by lia)]
  rfl
theorem yj (t:SetTable) (h:Int) (hm:Mk t.mask) {j:Nat}(hj:j<t.mask+1):∃r,r<t.mask+14∧(aH t.mask h r).1=j:=by
 obtain⟨k,hk,e⟩:=reach hm (rV t.mask h 13) hj
 exact⟨13+k,by lia,by rw[pC];exact e⟩
theorem AV (t:SetTable) (h:Int) (hm:Mk t.mask) {j:Nat}(hj:j<t.mask+1):∃n,n<10*(t.mask+14)∧(stand t h n).j=j:=by
 obtain⟨r,hr,e⟩:=yj t h hm hj
 have:=mK t.mask h r
 exact⟨bC t.mask h r,by lia,by rw[rh];exact e⟩
theorem AW {mask:Nat}(i k:Nat) (hi:i<mask+1) (hk:k≤runEnd mask i-i):i+k<mask+1:=by
 unfold runEnd at hk
 split at hk <;> lia
theorem vj (mask:Nat) (h:Int):∀n,∃r k,n=bC mask h r+k∧k≤runEnd mask (aH mask h r).1-(aH mask h r).1
 | 0=>⟨0,0,rfl,Nat.zero_le _⟩
 | n+1=>by
  obtain⟨r,k,e,hk⟩:=vj mask h n
  rcases Nat.lt_or_ge k (runEnd mask (aH mask h r).1-(aH mask h r).1) with z|z
  ·exact⟨r,k+1,by lia,by lia⟩
  ·refine⟨r+1,0,?_,Nat.zero_le _⟩
   show n+1=bC mask h r+(runEnd mask (aH mask h r).1-(aH mask h r).1)+1+0
   lia
theorem pD (t:SetTable) (h:Int) (n:Nat):(stand t h n).j<t.mask+1:=by
 obtain⟨r,k,e,hk⟩:=vj t.mask h n
 rw[e,dq t h r k hk]
 exact AW _ _ (rV _ _ _) hk
theorem first {p:Nat->Prop} [DecidablePred p]:∀n,p n->∃m,m≤n∧p m∧∀k,k<m->¬p k
 | 0,h=>⟨0,Nat.le_refl _,h,fun k hk=>absurd hk (Nat.not_lt_zero _)⟩
 | n+1,h=>by
  by_cases z:∃k,k≤n∧p k
  ·obtain⟨k,hk,q⟩:=z
   obtain⟨m,h1,h2,h3⟩:=first k q
   exact⟨m,by lia,h2,h3⟩
  ·exact⟨n+1,Nat.le_refl _,h,fun k hk q=>z ⟨k,by lia,q⟩⟩
def Rise (xs:Array Nat):Prop:=xs.toList.Pairwise (· < ·)
theorem j1 {xs:Array Nat}(r:Rise xs) {a b:Nat}(h:a<b) (hb:b<xs.size):xs[a]'(by lia)<xs[b]:=by
 have:=(List.pairwise_iff_getElem.mp r) a b (by simp;lia) (by simpa using hb) h
 simpa using this
theorem j3 {xs:Array Nat}(r:Rise xs) (j:Nat):∀fuel lo hi,lo≤hi->hi≤xs.size->hi-lo≤fuel->(∀a,(ha:a<lo)->(hs:a<xs.size)->xs[a]<j)->(∀a,hi≤a->(hs:a<xs.size)->j≤xs[a])->
  below.go xs j fuel lo hi≤xs.size∧(∀a,(ha:a<below.go xs j fuel lo hi)->(hs:a<xs.size)->xs[a]<j)∧∀a,below.go xs j fuel lo hi≤a->(hs:a<xs.size)->j≤xs[a]
 | 0,lo,hi,h1,h2,h3,h4,h5=>by
  have:lo=hi:=by lia
  subst this
  unfold below.go
  exact⟨h2,h4,h5⟩
 | fuel+1,lo,hi,h1,h2,h3,h4,h5=>by
  unfold below.go
  by_cases z:lo<hi
  ·rw[if_pos z]
   have hm:(lo+hi) / 2<xs.size:=by lia
   have e:xs.getD ((lo+hi) / 2) j=xs[(lo+hi) / 2]:=by simp[Array.getD,hm]
   simp only[e]
   split
   ·rename_i y
    refine j3 r j fuel _ _ (by lia) h2 (by lia) (fun a ha hs=>?_) h5
    rcases Nat.lt_or_ge a ((lo+hi) / 2) with q|q
    ·exact Nat.lt_trans (j1 r q hm) y
    ·obtain rfl:a=(lo+hi) / 2:=by lia
     exact y
   ·rename_i y
    refine j3 r j fuel _ _ (by lia) (by lia) (by lia) h4 (fun a ha hs=>?_)
    rcases Nat.lt_or_ge ((lo+hi) / 2) a with q|q
    ·exact Nat.le_trans (Nat.le_of_not_lt y) (Nat.le_of_lt (j1 r q hs))
    ·obtain rfl:a=(lo+hi) / 2:=by lia
     exact Nat.le_of_not_lt y
  ·rw[if_neg z]
   have:lo=hi:=by lia
   subst this
   exact⟨h2,h4,h5⟩
theorem below_spec {xs:Array Nat}(r:Rise xs) (j:Nat):below xs j≤xs.size∧(∀a,(ha:a<below xs j)->(hs:a<xs.size)->xs[a]<j)∧∀a,below xs j≤a->(hs:a<xs.size)->j≤xs[a]:=
 j3 r j xs.size 0 xs.size (Nat.zero_le _) (Nat.le_refl _) (by lia) (fun a ha=>absurd ha (Nat.not_lt_zero _)) fun a ha hs=>by lia
theorem xi {xs:Array Nat}(r:Rise xs) {i j:Nat}(h:xs[i]?=some j):below xs j=i:=by
 obtain⟨h1,h2,h3⟩:=below_spec r j
 obtain⟨hi,e⟩:=Array.getElem?_eq_some_iff.mp h
 rcases Nat.lt_trichotomy (below xs j) i with z|z|z
 ·have a:=h3 _ (Nat.le_refl _) (by lia)
  have b:=j1 r z hi
  lia
 ·exact z
 ·have:=h2 i z hi
  lia
structure Tab (t:SetTable):Prop where
 msk:Mk t.mask
 rise:Rise t.place
 le:∀j∈t.place.toList,j≤t.mask
 nod:t.dummies=#[]
theorem mM (j:Nat):has #[] j=false:=by
 unfold has
 simp
theorem slot_none {t:SetTable}(T:Tab t) {j:Nat}(h:j∉t.place.toList):t.slot j=.empty:=by
 unfold slot
 have z:(t.place[below t.place j]?==some j)=false:=by
  cases e:t.place[below t.place j]? with
  | none=>rfl
  | some k=>
   have hk:k∈t.place.toList:=by
    rw[←Array.getElem?_toList] at e
    exact List.mem_of_getElem? e
   have:k≠j:=fun q=>h (q▸hk)
   simpa using this
 simp only[z,T.nod,mM,Bool.false_eq_true,if_false]
theorem slot_some {t:SetTable}(T:Tab t) {i j:Nat}(h:t.place[i]?=some j):t.slot j=.live i:=by
 unfold slot
 rw[xi T.rise h]
 simp[h]
theorem mem_at {xs:Array Nat}{j:Nat}(h:j∈xs.toList):∃i:Nat,xs[i]?=some j:=by
 obtain⟨i,hi,e⟩:=List.mem_iff_getElem.mp h
 exact⟨i,by rw[←Array.getElem?_toList,List.getElem?_eq_getElem hi,e]⟩
theorem xj {n:Nat}{l:List Nat}(h:l.length<n):∃j,j<n∧j∉l:=by
 refine Classical.byContradiction fun z=>?_
 have sub:∀j∈List.range n,j∈l:=fun j hj=>Classical.byContradiction fun y=>z ⟨j,List.mem_range.mp hj,y⟩
 have key:∀(a b:List Nat),a.Nodup->(∀x∈a,x∈b)->a.length≤b.length:=by
  intro a
  induction a with
  | nil=>intro b _ _;exact Nat.zero_le _
  | cons x a ih=>
   intro b nd hs
   rw[List.nodup_cons] at nd
   have hx:=hs x List.mem_cons_self
   have:=ih (b.erase x) nd.2 fun y hy=>by
    refine(List.mem_erase_of_ne ?_).mpr (hs y (List.mem_cons_of_mem _ hy))
    rintro rfl
    exact nd.1 hy
   rw[List.length_erase_of_mem hx] at this
   have hp:0<b.length:=List.length_pos_of_mem hx
   simp only[List.length_cons]
   lia
 have:=key (List.range n) l List.nodup_range sub
 rw[List.length_range] at this
 lia
theorem meets {t:SetTable}(T:Tab t) (h:Int) (hf:t.place.size≤t.mask):∃n,n<10*(t.mask+14)∧(stand t h n).j∉t.place.toList∧∀m,m<n->(stand t h m).j∈t.place.toList:=by
 obtain⟨j,hj,hn⟩:=xj (n:=t.mask+1) (l:=t.place.toList) (by simp;lia)
 obtain⟨n,h1,e⟩:=AV t h T.msk hj
 obtain⟨m,h2,h3,h4⟩:=first (p:=fun n=>(stand t h n).j∉t.place.toList) n (by rw[e];exact hn)
 exact⟨m,by lia,h3,fun k hk=>Classical.byContradiction fun z=>h4 k hk z⟩
end Sa
namespace Sa
open PySem PySem.SetTable
def jy (mask:Nat) (P:List Nat) (h:Int) (j:Nat):Prop:=∃(t:SetTable) (n:Nat),t.mask=mask∧(stand t h n).j=j∧∀m,m<n->(stand t h m).j∈P
theorem jy.more {mask:Nat}{P P':List Nat}{h:Int}{j:Nat}(r:jy mask P h j) (s:∀x∈P,x∈P'):jy mask P' h j:=
 let ⟨t,n,e,a,b⟩:=r;⟨t,n,e,a,fun m hm=>s _ (b m hm)⟩
theorem jy.at {t:SetTable}{P:List Nat}{h:Int}{j:Nat}(r:jy t.mask P h j):∃n,(stand t h n).j=j∧∀m,m<n->(stand t h m).j∈P:=by
 obtain⟨u,n,e,a,b⟩:=r
 exact⟨n,by rw[j0 e.symm];exact a,fun m hm=>by rw[j0 e.symm];exact b m hm⟩
abbrev Elem:=Int×Value
structure Full (t:SetTable) (es:Array Elem):Prop where
 tab:Tab t
 size:t.place.size=es.size
 reach:∀x∈t.place.toList.zip es.toList,jy t.mask t.place.toList x.2.1 x.1
theorem rW {α β:Type}:∀(p:Nat) (P:List α) (E:List β) (a:α) (b:β),P.length=E.length->p≤P.length->(P.take p++a::P.drop p).zip (E.take p++b::E.drop p)=(P.zip E).take p++(a,b)::(P.zip E).drop p
 | 0,P,E,a,b,_,_=>by simp
 | p+1,[],_,_,_,_,h=>by simp at h
 | p+1,x::P,[],_,_,h,_=>by simp at h
 | p+1,x::P,y::E,a,b,h,hp=>by
  have:=rW p P E a b (by simpa using h) (by simpa using hp)
  simp only[List.take_succ_cons,List.drop_succ_cons,List.cons_append,List.zip_cons_cons]
  rw[this]
theorem ins_list {α:Type}(xs:Array α) (p:Nat) (x:α):(insertAt xs p x).toList=xs.toList.take p++x::xs.toList.drop p:=by
 rw[SetTable.toList_insertAt]
theorem xk {xs:Array Nat}(r:Rise xs) {j:Nat}(h:j∉xs.toList):Rise (insertAt xs (below xs j) j):=by
 obtain⟨h1,h2,h3⟩:=below_spec r j
 unfold Rise at r ⊢
 rw[ins_list]
 have e:=(List.take_append_drop (below xs j) xs.toList).symm
 rw[e] at r
 rw[List.pairwise_append] at r ⊢
 obtain⟨r1,r2,r3⟩:=r
 refine⟨r1,?_,?_⟩
 ·rw[List.pairwise_cons]
  refine⟨fun b hb=>?_,r2⟩
  obtain⟨k,hk,rfl⟩:=List.mem_iff_getElem.mp hb
  rw[List.length_drop] at hk
  have hk':below xs j+k<xs.size:=by simp at hk;lia
  rw[List.getElem_drop]
  have q:=h3 (below xs j+k) (by lia) hk'
  have ne:xs[below xs j+k]≠j:=fun z=>h (by rw[←z];simp)
  have:j<xs[below xs j+k]:=by lia
  simpa using this
 ·intro a ha b hb
  have aj:a<j:=by
   obtain⟨k,hk,rfl⟩:=List.mem_iff_getElem.mp ha
   rw[List.length_take] at hk
   rw[List.getElem_take]
   have q:=h2 k (by lia) (by simp at hk;lia)
   simpa using q
  rcases List.mem_cons.mp hb with rfl|hb
  ·exact aj
  ·exact r3 a ha b hb
theorem lU {α:Type}{l:List α}{p:Nat}{x y:α}:y∈l.take p++x::l.drop p↔y=x∨y∈l:=by
 have e:=List.take_append_drop p l
 rw[List.mem_append,List.mem_cons]
 have m:y∈l↔y∈l.take p∨y∈l.drop p:=by
  rw[←List.mem_append,e]
 rw[m]
 constructor
 ·rintro(h|h|h)
  ·exact .inr (.inl h)
  ·exact .inl h
  ·exact .inr (.inr h)
 ·rintro(h|h|h)
  ·exact .inr (.inl h)
  ·exact .inl h
  ·exact .inr (.inr h)
theorem put_tab {t:SetTable}(T:Tab t) (j:Nat):(t.put j).2=below t.place j∧(t.put j).1.mask=t.mask∧(t.put j).1.place=insertAt t.place (below t.place j) j∧(t.put j).1.dummies=#[]∧(t.put j).1.plain=t.plain∧(t.put j).1.led=t.led∧(t.put j).1.moves=t.moves:=by
 unfold put
 refine⟨rfl,rfl,rfl,?_,rfl,rfl,rfl⟩
 show(if has t.dummies j=true then _ else t.dummies)=#[]
 rw[T.nod,mM]
 rfl
theorem ins_size {α:Type}(xs:Array α) {p:Nat}(x:α) (h:p≤xs.size):(insertAt xs p x).size=xs.size+1:=by
 rw[←Array.length_toList,ins_list,List.length_append,List.length_cons,List.length_take,List.length_drop]
 simp
 lia
theorem full_put {t:SetTable}{es:Array Elem}(F:Full t es) {e:Elem}{n:Nat}(hn:(stand t e.1 n).j∉t.place.toList) (hb:∀m,m<n->(stand t e.1 m).j∈t.place.toList) :
  Full (t.put (stand t e.1 n).j).1 (insertAt es (t.put (stand t e.1 n).j).2 e):=by
 obtain⟨p1,p2,p3,p4,_⟩:=put_tab F.tab (stand t e.1 n).j
 obtain⟨b1,_,_⟩:=below_spec F.tab.rise (stand t e.1 n).j
 have hl:(stand t e.1 n).j<t.mask+1:=pD t e.1 n
 have sz:=F.size
 refine⟨⟨by rw[p2];exact F.tab.msk,by rw[p3];exact xk F.tab.rise hn,fun j hj=>?_,p4⟩,?_,fun x hx=>?_⟩
 ·rw[p3,ins_list,lU] at hj
  rw[p2]
  rcases hj with rfl|hj
  ·lia
  ·exact F.tab.le j hj
 ·rw[p1,p3,ins_size _ _ b1,ins_size _ _ (by lia),sz]
 ·rw[p1,p3,ins_list,ins_list,rW _ _ _ _ _ (by simp[sz]) (by simpa using b1),lU] at hx
  have up:∀z∈t.place.toList,z∈(t.put (stand t e.1 n).j).1.place.toList:=fun z hz=>by rw[p3,ins_list,lU];exact .inr hz
  rw[p2]
  rcases hx with rfl|hx
  ·exact⟨t,n,rfl,rfl,fun m hm=>up _ (hb m hm)⟩
  ·exact(F.reach x hx).more up
abbrev tm (mask:Nat):SetTable:={ mask,place:=#[],dummies:=#[],finger:=0,led:=true,moves:=0,plain:=true }
def bX (owner:Array (Option Nat)) (j:Nat):Prop:=(owner.getD j (some 0)).isSome=true
instance (owner:Array (Option Nat)) (j:Nat):Decidable (bX owner j):=inferInstanceAs (Decidable (_=true))
theorem mO {mask:Nat}{owner:Array (Option Nat)}(h:Int):∀fuel r,(∀m,m<bC mask h r->bX owner (stand (tm mask) h m).j)->(∃r',r≤r'∧r' < r+fuel∧¬bX owner (aH mask h r').1)->
  ∃j n,layClean.free mask owner fuel (aH mask h r).1 (aH mask h r).2=some j∧¬bX owner j∧(stand (tm mask) h n).j=j∧∀m,m<n->bX owner (stand (tm mask) h m).j
 | 0,r,_,⟨r',h1,h2,_⟩=>by lia
 | fuel+1,r,hb,⟨r',h1,h2,h3⟩=>by
  unfold layClean.free
  cases e:(List.range (runEnd mask (aH mask h r).1+1-(aH mask h r).1)).find? fun k=>(owner.getD ((aH mask h r).1+k) (some 0)).isNone with
  | some k=>
   have hk:=List.mem_range.mp (List.mem_of_find?_eq_some e)
   have hr:=i4 mask (aH mask h r).1
   have hq:(owner.getD ((aH mask h r).1+k) (some 0)).isNone=true:=List.find?_some (p:=fun k=>(owner.getD ((aH mask h r).1+k) (some 0)).isNone) e
   have sk:=dq (tm mask) h r k (by show k≤runEnd mask (aH mask h r).1-(aH mask h r).1;lia)
   refine⟨_,bC mask h r+k,rfl,?_,by rw[sk],fun m hm=>?_⟩
   ·unfold bX
    intro z
    rw[Option.isNone_iff_eq_none] at hq
    rw[hq] at z
    cases z
   ·rcases Nat.lt_or_ge m (bC mask h r) with y|y
    ·exact hb m y
    ·obtain⟨d,rfl⟩:∃d,m=bC mask h r+d:=⟨m-bC mask h r,by lia⟩
     have sd:=dq (tm mask) h r d (by show d≤runEnd mask (aH mask h r).1-(aH mask h r).1;lia)
     rw[sd]
     show bX owner ((aH mask h r).1+d)
     unfold bX
     have hd:d<k:=by lia
     obtain⟨_,as,bs,e1,e2⟩:=List.find?_eq_some_iff_append.mp e
     have hidx:as.length=k:=by
      have:(List.range (runEnd mask (aH mask h r).1+1-(aH mask h r).1))[as.length]?=some k:=by rw[e1];simp
      rw[List.getElem?_range (by have:=congrArg List.length e1;simp at this;lia)] at this
      exact Option.some.inj this
     have hmem:d∈as:=by
      have:(List.range (runEnd mask (aH mask h r).1+1-(aH mask h r).1))[d]?=some d:=List.getElem?_range (by lia)
      rw[e1,List.getElem?_append_left (by lia)] at this
      exact List.mem_of_getElem? this
     have:=e2 d hmem
     cases z:owner.getD ((aH mask h r).1+d) (some 0) with
     | none=>rw[z] at this;simp at this
     | some _=>rfl
  | none=>
   have all:=List.find?_eq_none.mp e
   have hr:=i4 mask (aH mask h r).1
   have tk:∀d,d≤runEnd mask (aH mask h r).1-(aH mask h r).1->bX owner ((aH mask h r).1+d):=fun d hd=>by
    have:=all d (List.mem_range.mpr (by lia))
    unfold bX
    cases z:owner.getD ((aH mask h r).1+d) (some 0) with
    | none=>rw[z] at this;simp at this
    | some _=>rfl
   have ne:r'≠r:=fun z=>h3 (by rw[z];exact tk 0 (Nat.zero_le _))
   refine mO h fuel (r+1) (fun m hm=>?_) ⟨r',by lia,by lia,h3⟩
   rcases Nat.lt_or_ge m (bC mask h r) with y|y
   ·exact hb m y
   ·have hm':m<bC mask h r+(runEnd mask (aH mask h r).1-(aH mask h r).1)+1:=hm
    obtain⟨d,rfl⟩:∃d,m=bC mask h r+d:=⟨m-bC mask h r,by lia⟩
    have sd:=dq (tm mask) h r d (by show d≤runEnd mask (aH mask h r).1-(aH mask h r).1;lia)
    rw[sd]
    exact tk d (by lia)
structure Own (mask:Nat) (hs:List Int) (owner:Array (Option Nat)):Prop where
 size:owner.size=mask+1
 perm:((List.range (mask+1)).filterMap fun j=>owner.getD j none).Perm (List.range hs.length)
 reach:∀j q h,owner[j]?=some (some q)->hs[q]?=some h->∃n,(stand (tm mask) h n).j=j∧∀m,m<n->bX owner (stand (tm mask) h m).j
theorem tQ {α β:Type}{f g:α->Option β}:∀{l:List α},(∀a∈l,f a=g a)->l.filterMap f=l.filterMap g
 | [],_=>rfl
 | a::l,h=>by rw[List.filterMap_cons,List.filterMap_cons,h a List.mem_cons_self,tQ fun b hb=>h b (List.mem_cons_of_mem _ hb)]
theorem iM {owner:Array (Option Nat)}{j k:Nat}(hj:owner.getD j (some 0)=none):∀(l:List Nat),l.Nodup->j∈l->(∀x∈l,x<owner.size)->
  (l.filterMap fun i=>(owner.setIfInBounds j (some k)).getD i none).Perm ((l.filterMap fun i=>owner.getD i none)++[k])
 | [],_,h,_=>by cases h
 | x::l,nd,h,hs=>by
  rw[List.nodup_cons] at nd
  have hx:=hs x List.mem_cons_self
  by_cases z:x=j
  ·subst z
   have e1:(owner.setIfInBounds x (some k)).getD x none=some k:=by simp[Array.getD,hx]
   have e2:owner.getD x none=none:=by
    simp only[Array.getD,hx,dite_true] at hj ⊢
    exact hj
   have e3:(l.filterMap fun i=>(owner.setIfInBounds x (some k)).getD i none)=l.filterMap fun i=>owner.getD i none:=by
    refine tQ fun i hi=>?_
    have ne:x≠i:=fun q=>nd.1 (q▸hi)
    have hi':=hs i (List.mem_cons_of_mem _ hi)
    simp[Array.getD,hi',Array.getElem_setIfInBounds,ne]
   rw[List.filterMap_cons_some (b:=k) (by rw[e1]),List.filterMap_cons_none (by rw[e2]),e3]
   exact(List.perm_append_singleton k _).symm
  ·have hjl:j∈l:=by
    rcases List.mem_cons.mp h with q|q
    ·exact absurd q.symm z
    ·exact q
   have ih:=iM (k:=k) hj l nd.2 hjl fun y hy=>hs y (List.mem_cons_of_mem _ hy)
   have e1:(owner.setIfInBounds j (some k)).getD x none=owner.getD x none:=by
    have ne:j≠x:=fun q=>z q.symm
    simp[Array.getD,hx,Array.getElem_setIfInBounds,ne]
   cases e:owner.getD x none with
   | none=>rw[List.filterMap_cons_none (by rw[e1,e]),List.filterMap_cons_none (by rw[e])];exact ih
   | some v=>rw[List.filterMap_cons_some (b:=v) (by rw[e1,e]),List.filterMap_cons_some (b:=v) (by rw[e])];exact ih.cons v
end Sa
namespace Sa
open PySem PySem.SetTable
theorem mP {owner:Array (Option Nat)}{j k x:Nat}(h:bX owner x):bX (owner.setIfInBounds j (some k)) x:=by
 unfold bX at h ⊢
 rw[Array.getD_eq_getD_getElem?] at h ⊢
 by_cases e:j=x
 ·subst e
  by_cases hx:j<owner.size
  ·rw[Array.getElem?_setIfInBounds_self_of_lt hx];rfl
  ·rw[Array.getElem?_eq_none (by simpa using hx)];rfl
 ·rw[Array.getElem?_setIfInBounds_ne e];exact h
theorem vk {owner:Array (Option Nat)}:∀(l:List Nat),(∀x∈l,bX owner x∧x<owner.size)->(l.filterMap fun j=>owner.getD j none).length=l.length
 | [],_=>rfl
 | x::l,h=>by
  obtain⟨h1,h2⟩:=h x List.mem_cons_self
  unfold bX at h1
  simp only[Array.getD,h2,dite_true] at h1
  obtain⟨v,e⟩:=Option.isSome_iff_exists.mp h1
  rw[List.filterMap_cons_some (b:=v) (by simp[Array.getD,h2];exact e),List.length_cons,List.length_cons,vk l fun y hy=>h y (List.mem_cons_of_mem _ hy)]
theorem xm {mask:Nat}{hs:List Int}{owner:Array (Option Nat)}(M:Mk mask) (O:Own mask hs owner) (h:Int) (hl:hs.length≤mask) :
  ∃j,layClean.free mask owner (turns mask) (bits h % (mask+1)) (bits h)=some j∧Own mask (hs++[h]) (owner.setIfInBounds j (some hs.length)):=by
 have sz:=O.size
 obtain⟨e,he,hn⟩:∃e,e<mask+1∧¬bX owner e:=by
  refine Classical.byContradiction fun z=>?_
  have all:∀x∈List.range (mask+1),bX owner x∧x<owner.size:=fun x hx=>by
   have hx:=List.mem_range.mp hx
   exact⟨Classical.byContradiction fun y=>z ⟨x,hx,y⟩,by lia⟩
  have h1:=vk _ all
  have h2:=O.perm.length_eq
  rw[h1,List.length_range,List.length_range] at h2
  lia
 obtain⟨r,hr,er⟩:=yj (tm mask) h M he
 obtain⟨j,n,f1,f2,f3,f4⟩:=mO (mask:=mask) (owner:=owner) h (turns mask) 0 (fun m hm=>absurd hm (Nat.not_lt_zero _)) ⟨r,Nat.zero_le _,by
  have:r<mask+14:=hr
  unfold turns
  lia,by
  have er:(aH mask h r).1=e:=er
  rw[er];exact hn⟩
 have hj:owner.getD j (some 0)=none:=by
  unfold bX at f2
  cases z:owner.getD j (some 0) with
  | none=>rfl
  | some v=>rw[z] at f2;exact absurd rfl f2
 have hjs:j<owner.size:=by
  refine Classical.byContradiction fun z=>?_
  simp[Array.getD,z] at hj
 refine⟨j,f1,by rw[Array.size_setIfInBounds];exact sz,?_,fun j' q h' e1 e2=>?_⟩
 ·have p:=iM (k:=hs.length) hj (List.range (mask+1)) List.nodup_range (List.mem_range.mpr (by lia)) fun x hx=>by have:=List.mem_range.mp hx;lia
  refine p.trans ?_
  rw[List.length_append,List.length_singleton]
  have er:List.range (hs.length+1)=List.range hs.length++[hs.length]:=List.range_succ
  rw[er]
  exact O.perm.append_right _
 ·by_cases z:j=j'
  ·subst z
   rw[Array.getElem?_setIfInBounds_self_of_lt hjs] at e1
   have:hs.length=q:=by
    injection e1 with e1
    injection e1
   subst this
   rw[List.getElem?_append_right (Nat.le_refl _)] at e2
   simp at e2
   subst e2
   exact⟨n,f3,fun m hm=>mP (f4 m hm)⟩
  ·rw[Array.getElem?_setIfInBounds_ne z] at e1
   have hq:q<hs.length:=by
    have hj':j' < owner.size:=by
     obtain⟨w,_⟩:=Array.getElem?_eq_some_iff.mp e1
     exact w
    have:q∈(List.range (mask+1)).filterMap fun j=>owner.getD j none:=by
     rw[List.mem_filterMap]
     refine⟨j',List.mem_range.mpr (by lia),?_⟩
     have:=(Array.getElem?_eq_some_iff.mp e1).2
     simp[Array.getD,hj',this]
    exact List.mem_range.mp (O.perm.mem_iff.mp this)
   rw[List.getElem?_append_left hq] at e2
   obtain⟨m,g1,g2⟩:=O.reach j' q h' e1 e2
   exact⟨m,g1,fun k hk=>mP (g2 k hk)⟩
theorem xn (mask:Nat):Own mask [] (Array.replicate (mask+1) none):=by
 refine⟨by simp,?_,fun j q h e=>?_⟩
 ·have:((List.range (mask+1)).filterMap fun j=>(Array.replicate (mask+1) (none:Option Nat)).getD j none)=[]:=by
   rw[List.filterMap_eq_nil_iff]
   intro a _
   simp only[Array.getD]
   split <;> simp
  rw[this]
  exact List.Perm.refl _
 ·rw[Array.getElem?_eq_some_iff] at e
  obtain⟨_,e⟩:=e
  simp at e
theorem pE {mask:Nat}(M:Mk mask):∀(rest done:List Int) (owner:Array (Option Nat)),Own mask done owner->(done++rest).length≤mask->
  ∃owner',(rest.foldl (fun(acc:Option (Array (Option Nat)×Nat)) h=>do
   let (owner,k) ←acc
   let j ←layClean.free mask owner (turns mask) (bits h % (mask+1)) (bits h)
   pure (owner.setIfInBounds j (some k),k+1)) (some (owner,done.length)))=some (owner',(done++rest).length)∧Own mask (done++rest) owner'
 | [],done,owner,O,_=>⟨owner,by simp,by rw[List.append_nil];exact O⟩
 | h::rest,done,owner,O,hl=>by
  simp only[List.length_append,List.length_cons] at hl
  obtain⟨j,e,O'⟩:=xm M O h (by lia)
  obtain⟨owner',e',O''⟩:=pE M rest (done++[h]) _ O' (by simp;lia)
  refine⟨owner',?_,by rw[List.append_assoc] at O'';exact O''⟩
  rw[List.foldl_cons]
  have:(do
   let (owner,k) ←some (owner,done.length)
   let j ←layClean.free mask owner (turns mask) (bits h % (mask+1)) (bits h)
   pure (owner.setIfInBounds j (some k),k+1))=some (owner.setIfInBounds j (some done.length),done.length+1):=by
   simp[e]
  rw[this]
  rw[List.length_append,List.length_singleton] at e'
  rw[e']
  simp
theorem xp {mask:Nat}(M:Mk mask) (hs:List Int) (hl:hs.length≤mask):∃owner,layClean mask hs.toArray=some owner∧Own mask hs owner:=by
 obtain⟨owner,e,O⟩:=pE M hs [] _ (xn mask) (by simpa using hl)
 refine⟨owner,?_,by simpa using O⟩
 unfold layClean
 rw[←Array.foldl_toList]
 have e:List.foldl _ (some (Array.replicate (mask+1) none,0)) hs=_:=e
 rw[e]
 rfl
def cp (mask:Nat) (owner:Array (Option Nat)):List (Nat×Nat):=(List.range (mask+1)).filterMap fun j=>(owner.getD j none).map (j,·)
theorem i6 {mask:Nat}{owner:Array (Option Nat)}{x:Nat×Nat}(sz:owner.size=mask+1):x∈cp mask owner↔owner[x.1]?=some (some x.2):=by
 unfold cp
 rw[List.mem_filterMap]
 constructor
 ·rintro⟨j,hj,e⟩
  have hj':j<owner.size:=by have:=List.mem_range.mp hj;lia
  obtain⟨v,e1,e2⟩:=Option.map_eq_some_iff.mp e
  subst e2
  rw[Array.getElem?_eq_getElem hj']
  simp only[Array.getD,hj',dite_true] at e1
  rw[←e1]
  rfl
 ·intro e
  obtain⟨h1,h2⟩:=Array.getElem?_eq_some_iff.mp e
  refine⟨x.1,List.mem_range.mpr (by lia),?_⟩
  have:owner.getD x.1 none=some x.2:=by simp[Array.getD,h1,h2]
  rw[this]
  rfl
theorem vm (mask:Nat) (owner:Array (Option Nat)):(cp mask owner).map (·.2)=(List.range (mask+1)).filterMap fun j=>owner.getD j none:=by
 unfold cp
 rw[List.map_filterMap]
 refine tQ fun j _=>?_
 cases owner.getD j none <;> rfl
theorem rX {f:Nat->Option (Nat×Nat)}(hf:∀j x,f j=some x->x.1=j):∀(l:List Nat),l.Pairwise (· < ·)->((l.filterMap f).map (·.1)).Pairwise (· < ·)
 | [],_=>List.Pairwise.nil
 | a::l,h=>by
  rw[List.pairwise_cons] at h
  have ih:=rX hf l h.2
  cases e:f a with
  | none=>rw[List.filterMap_cons_none e];exact ih
  | some x=>
   rw[List.filterMap_cons_some e,List.map_cons,List.pairwise_cons]
   refine⟨fun b hb=>?_,ih⟩
   obtain⟨y,hy,rfl⟩:=List.mem_map.mp hb
   obtain⟨c,hc,ec⟩:=List.mem_filterMap.mp hy
   rw[hf a x e,hf c y ec]
   exact h.1 c hc
theorem tR (mask:Nat) (owner:Array (Option Nat)):((cp mask owner).map (·.1)).Pairwise (· < ·):=by
 unfold cp
 refine rX (fun j x e=>?_) _ List.pairwise_lt_range
 obtain⟨v,_,e2⟩:=Option.map_eq_some_iff.mp e
 rw[←e2]
theorem vn {α:Type}{g:Nat->Option α}:∀(l:List (Nat×Nat)),(∀x∈l,∃a,g x.2=some a)->(l.map (·.1)).zip ((l.map (·.2)).filterMap g)=l.filterMap (fun x=>(g x.2).map (x.1,·))∧((l.map (·.2)).filterMap g).length=l.length
 | [],_=>⟨rfl,rfl⟩
 | x::l,h=>by
  obtain⟨a,ha⟩:=h x List.mem_cons_self
  obtain⟨i1,i2⟩:=vn l fun y hy=>h y (List.mem_cons_of_mem _ hy)
  rw[List.map_cons,List.map_cons,List.filterMap_cons_some ha,List.filterMap_cons_some (b:=(x.1,a)) (by rw[ha];rfl),List.zip_cons_cons,i1]
  exact⟨rfl,by rw[List.length_cons,List.length_cons,i2]⟩
theorem laid_ok {mask finger moves:Nat}{led plain:Bool}(M:Mk mask) (es:Array Elem) (hl:es.size≤mask) :
  ∃t order,laid mask finger moves led plain (es.map (·.1))=some (t,order)∧t.mask=mask∧t.plain=plain∧t.led=led∧(order.filterMap (es[·]?)).size=es.size∧(order.filterMap (es[·]?)).toList.Perm es.toList∧Full t (order.filterMap (es[·]?)):=by
 obtain⟨owner,e,O⟩:=xp M (es.toList.map (·.1)) (by rw[List.length_map,Array.length_toList];exact hl)
 have eh:(es.toList.map (·.1)).toArray=es.map (·.1):=by
  apply Array.toList_inj.mp
  rw[Array.toList_map]
 rw[eh] at e
 have ho:((cp mask owner).map (·.2)).Perm (List.range es.size):=by
  rw[vm]
  have:=O.perm
  simpa using this
 refine⟨{ mask,place:=((cp mask owner).map (·.1)).toArray,dummies:=#[],finger,led,moves,plain },((cp mask owner).map (·.2)).toArray,?_,rfl,rfl,rfl,?_⟩
 ·unfold laid
  rw[e]
  rfl
 have perm:(((cp mask owner).map (·.2)).toArray.filterMap (es[·]?)).toList.Perm es.toList:=by
  rw[Array.toList_filterMap]
  exact(ho.filterMap _).trans (by rw[filterMap_getElem?_range])
 have some_:∀x∈cp mask owner,∃a,es[x.2]?=some a:=fun x hx=>by
  have:x.2∈(cp mask owner).map (·.2):=List.mem_map.mpr ⟨x,hx,rfl⟩
  have:=List.mem_range.mp (ho.mem_iff.mp this)
  exact⟨es[x.2],Array.getElem?_eq_getElem this⟩
 obtain⟨z1,z2⟩:=vn (g:=fun i=>es[i]?) (cp mask owner) some_
 refine⟨?_,perm,⟨M,tR mask owner,fun j hj=>?_,rfl⟩,?_,fun x hx=>?_⟩
 ·rw[←Array.length_toList,perm.length_eq,Array.length_toList]
 ·have hj:j∈(cp mask owner).map (·.1):=hj
  obtain⟨x,hx,rfl⟩:=List.mem_map.mp hj
  rw[i6 O.size] at hx
  obtain⟨w,_⟩:=Array.getElem?_eq_some_iff.mp hx
  have:=O.size
  show x.1≤mask
  lia
 ·show((cp mask owner).map (·.1)).toArray.size=_
  rw[List.size_toArray,List.length_map,←Array.length_toList,Array.toList_filterMap]
  exact z2.symm
 ·rw[Array.toList_filterMap] at hx
  have hx:x∈((cp mask owner).map (·.1)).zip (((cp mask owner).map (·.2)).filterMap fun i=>es[i]?):=hx
  rw[z1,List.mem_filterMap] at hx
  obtain⟨y,hy,e1⟩:=hx
  obtain⟨a,e2,e3⟩:=Option.map_eq_some_iff.mp e1
  subst e3
  have hq:(es.toList.map (·.1))[y.2]?=some a.1:=by
   rw[List.getElem?_map,Array.getElem?_toList,e2]
   rfl
  obtain⟨n,g1,g2⟩:=O.reach y.1 y.2 a.1 ((i6 O.size).mp hy) hq
  refine⟨tm mask,n,rfl,g1,fun m hm=>?_⟩
  show(stand (tm mask) a.1 m).j∈(cp mask owner).map (·.1)
  have tk:=g2 m hm
  have lt:(stand (tm mask) a.1 m).j<mask+1:=pD (tm mask) a.1 m
  have lt':(stand (tm mask) a.1 m).j<owner.size:=by rw[O.size];exact lt
  unfold bX at tk
  simp only[Array.getD,lt',dite_true] at tk
  obtain⟨v,ev⟩:=Option.isSome_iff_exists.mp tk
  refine List.mem_map.mpr ⟨((stand (tm mask) a.1 m).j,v),(i6 O.size).mpr ?_,rfl⟩
  rw[Array.getElem?_eq_getElem lt']
  exact congrArg some ev
end Sa
namespace L2
open PySem PySem.Spec PyProof.Rows PySem.SetTable
theorem vo (a:Addr) (x:Value) (h:Int) (adding:Bool) (fuel:Nat) (st:Option Probe):setSearchFrom a x h adding (fuel+1) st=(do
  let (es,_,t) ←setState a
  if t.gaveWay then unsupported "set:on-a-table-that-gave-way"
  let some met:=t.probe (fun i=>(es[i]?.map (·.1)).getD 0) h (st.getD (t.probeStart h))|unsupported "internal:set-table-without-an-empty-slot"
  match met with
  | .empty j dummy=>
   match dummy with
   | none=>return .free j false
   | some d=>
    if adding&&t.slot d != .dummy then rule "set.search.the-dummy-was-taken";return ←setSearchFrom a x h adding fuel none
    return .free d true
  | .candidate j i next=>
   if !t.led then
    if ←searchCouldBeSeen x ((es.filter (·.1==h)).toList.map (·.2)) then unsupported "set:the-search-would-show-the-table"
   let some (_,y):=es[i]? | unsupported "internal:set-entry"
   let equal ←holding [y] (eqBool y x)
   let (es',_,t') ←setState a
   if adding&&equal then return .there none
   let some same:=t'.sameMemory t.moves t.mask|unsupported "set.changed-during-lookup:is-the-new-block-at-the-old-address"
   let still ←match (if same then t'.slot j else .empty) with
    | .live i'=>match es'[i']? with
     | some (_,y')=>do pure (if ←isSame y' y then some i' else none)
     | none=>pure none
    | _=>pure none
   match still with
   | none=>rule "set.search.anew";setSearchFrom a x h adding fuel none
   | some i'=>if equal then return .there (some i') else setSearchFrom a x h adding fuel (some next)):=rfl
section
variable {t:SetTable}{H:Nat->Int}{h:Int}{N:Nat}
theorem rY (T:Sa.Tab t) (hN:(Sa.stand t h N).j∉t.place.toList) (hb:∀m,m<N->(Sa.stand t h m).j∈t.place.toList):∀fuel m,m≤N->N-m<fuel->
  ∃m',m≤m'∧m'≤N∧((m'=N∧probe.go t H h fuel (Sa.stand t h m)=some (.empty (Sa.stand t h N).j none))∨
   (m' < N∧∃i,t.place[i]?=some (Sa.stand t h m').j∧H i=h∧probe.go t H h fuel (Sa.stand t h m)=some (.candidate (Sa.stand t h m').j i (Sa.stand t h (m'+1)))))∧
   ∀q,m≤q->q<m'->∀i,t.place[i]?=some (Sa.stand t h q).j->H i≠h
 | 0,m,_,h2=>by lia
 | fuel+1,m,h1,h2=>by
  rcases Nat.lt_or_ge m N with z|z
  ·obtain⟨i,hi⟩:=Sa.mem_at (hb m z)
   have sl:=Sa.slot_some T hi
   have uniq:∀i',t.place[i']?=some (Sa.stand t h m).j->i'=i:=fun i' hi'=>by
    have:=Sa.slot_some T hi'
    rw[sl] at this
    cases this
    rfl
   by_cases e:H i=h
   ·refine⟨m,Nat.le_refl _,h1,.inr ⟨z,i,hi,e,?_⟩,fun q a b=>by lia⟩
    unfold probe.go
    rw[sl]
    simp only[e,beq_self_eq_true,if_true]
    rfl
   ·obtain⟨m',a1,a2,a3,a4⟩:=rY T hN hb fuel (m+1) z (by lia)
    have eg:probe.go t H h (fuel+1) (Sa.stand t h m)=probe.go t H h fuel (Sa.stand t h (m+1)):=by
     rw[probe.go,sl]
     have:(H i==h)=false:=by simpa using e
     simp only[this,Bool.false_eq_true,if_false]
     rfl
    refine⟨m',by lia,a2,?_,fun q b1 b2 i' hi'=>?_⟩
    ·rw[eg];exact a3
    ·rcases Nat.lt_or_ge m q with y|y
     ·exact a4 q (by lia) b2 i' hi'
     ·obtain rfl:q=m:=by lia
      rw[uniq i' hi']
      exact e
  ·obtain rfl:m=N:=by lia
   refine⟨m,Nat.le_refl _,Nat.le_refl _,.inl ⟨rfl,?_⟩,fun q a b=>by lia⟩
   unfold probe.go
   rw[Sa.slot_none T hN,Sa.stand_dummy]
end
structure EKind (prog:Program) (w:World) (K:Type) [DecidableEq K] where
 knd:HeapKind prog w K
 byVal:∀{A:Around}{E:Value->Shared->Prop}{s:Shared}{k:K}{a:Addr}{Q:Bool->Shared->Prop},knd.is s.heap k a->Q true s->wpAny (model prog w) A (hashByValue 8 (.ref a)) Q E s
 noCls:∀{A:Around}{E:Value->Shared->Prop}{s:Shared}{k:K}{a:Addr}{Q:Bool->Shared->Prop},knd.is s.heap k a->Q false s->wpAny (model prog w) A (ofAClassStatement 8 (.ref a)) Q E s
 keep:∀{h h':Heap}{k:K}{a:Addr},knd.is h k a->(∀b o,o.cls=.type "tuple"->h.get? b=some o->h'.get? b=some o)->knd.is h' k a
section
variable {prog:Program}{w:World}{K:Type} [DecidableEq K] {A:Around}{E:Value->Shared->Prop}{s:Shared}{X:EKind prog w K}
def El (X:EKind prog w K) (h:Heap) (e:Sa.Elem) (k:K):Prop:=∃b,e.2=.ref b∧X.knd.is h k b∧e.1=X.knd.hash k
structure SetAt (X:EKind prog w K) (h:Heap) (a:Addr) (o:Obj) (es:Array Sa.Elem) (ep:Nat) (t:SetTable) (ks:List K):Prop where
 ob:h.get? a=some o
 ex:o.ExactSet
 dt:o.data=.set es ep t
 full:Sa.Full t es
 few:t.place.size*5<t.mask*3
 pl:t.plain=true
 el:Paired (El X h) es.toList ks
 nd:ks.Nodup
theorem SetAt.fits {a:Addr}{o:Obj}{es:Array Sa.Elem}{ep:Nat}{t:SetTable}{ks:List K}(S:SetAt X s.heap a o es ep t ks):t.fits es.size=true:=by
 unfold SetTable.fits SetTable.fill
 rw[S.full.tab.nod,S.full.size]
 have:=S.few
 rw[S.full.size] at this
 simp
 lia
theorem odd {m:Nat}(h:Sa.Mk m):(m % 2==0)=false:=by rcases h with rfl|rfl|rfl|rfl|rfl|rfl <;> rfl
theorem tS {x:Addr}{k:K}(hx:X.knd.is s.heap k x):∀(l:List Value) {Q:Bool->Shared->Prop},(∀v∈l,∃b k',v=.ref b∧X.knd.is s.heap k' b)->Q false s->wpAny (model prog w) A (searchCouldBeSeen (.ref x) l) Q E s:=by
 intro l Q hl h
 unfold searchCouldBeSeen
 refine wpAny_bind (wpAny_forIn_list _ (fun rest r s'=>r.1=none∧s'=s∧∀v∈rest,∃b k',v=.ref b∧X.knd.is s.heap k' b) _ ?turn ?fin _ _ ⟨rfl,rfl,hl⟩)
 case turn=>
  rintro v rest ⟨r1,r2⟩ s' ⟨hr,e,hall⟩
  simp only at hr
  subst e hr
  obtain⟨b,k',rfl,hb⟩:=hall v List.mem_cons_self
  have hall':∀u∈rest,∃b k',u=.ref b∧X.knd.is s'.heap k' b:=fun u hu=>hall u (List.mem_cons_of_mem _ hu)
  dsimp only
  by_cases z:((x==b)||(carriedByValue (.ref x)&&carriedByValue (.ref b)))=true
  ·rw[if_pos z]
   exact wpAny_pure ⟨rfl,rfl,hall'⟩
  ·rw[if_neg z]
   refine wpAny_bind (X.knd.quiet hx ?_)
   simp only[Bool.not_true,Bool.false_eq_true,if_false]
   refine wpAny_bind (X.knd.quiet hb ?_)
   simp only[Bool.not_true,Bool.false_eq_true,if_false]
   refine wpAny_bind (X.noCls hx ?_)
   simp only[Bool.false_eq_true,if_false]
   refine wpAny_bind (X.noCls hb ?_)
   simp only[Bool.false_eq_true,if_false]
   exact wpAny_pure ⟨rfl,rfl,hall'⟩
 case fin=>
  rintro⟨r1,r2⟩ s' ⟨hr,e,_⟩
  simp only at hr
  subst e hr
  exact wpAny_pure h
end
end L2
namespace L2
open PySem PySem.Spec PyProof.Rows PySem.SetTable
section
variable {prog:Program}{w:World}{K:Type} [DecidableEq K] {A:Around}{E:Value->Shared->Prop}{s:Shared}{X:EKind prog w K}{a:Addr}{o:Obj}{es:Array Sa.Elem}{ep:Nat}{t:SetTable}{ks:List K}
theorem yk (S:SetAt X s.heap a o es ep t ks) {i j:Nat}(h:t.place[i]?=some j):∃e k,es[i]?=some e∧ks[i]?=some k∧El X s.heap e k:=by
 have hi:i<es.size:=by
  have:=(Array.getElem?_eq_some_iff.mp h).1
  rw[S.full.size] at this
  exact this
 obtain⟨k,hk,el⟩:=bR (i:=i) (a:=es[i]) S.el (by simp[hi])
 exact⟨es[i],k,Array.getElem?_eq_getElem hi,hk,el⟩
theorem AX (S:SetAt X s.heap a o es ep t ks) {k:K}{N:Nat}(hk:k∈ks) (hN:(Sa.stand t (X.knd.hash k) N).j∉t.place.toList):∃(n i:Nat),n<N∧t.place[i]?=some (Sa.stand t (X.knd.hash k) n).j∧ks[i]?=some k:=by
 obtain⟨i,hi,e⟩:=List.mem_iff_getElem.mp hk
 have hki:ks[i]?=some k:=by rw[List.getElem?_eq_getElem hi,e]
 obtain⟨el,hel,b,e1,e2,e3⟩:=io S.el hki
 have hes:es[i]?=some el:=by rw[←Array.getElem?_toList];exact hel
 have his:i<t.place.size:=by
  rw[S.full.size]
  exact(Array.getElem?_eq_some_iff.mp hes).1
 have hp:t.place[i]?=some t.place[i]:=Array.getElem?_eq_getElem his
 have hz:(t.place[i],el)∈t.place.toList.zip es.toList:=by
  rw[List.mem_iff_getElem?]
  refine⟨i,?_⟩
  rw[List.getElem?_zip_eq_some]
  exact⟨by simpa using hp,hel⟩
 obtain⟨n,r1,r2⟩:=(S.full.reach _ hz).at
 have e3':el.1=X.knd.hash k:=e3
 dsimp only at r1 r2
 rw[e3'] at r1 r2
 refine⟨n,i,?_,by rw[r1];exact hp,hki⟩
 rcases Nat.lt_trichotomy n N with z|z|z
 ·exact z
 ·subst z
  rw[r1] at hN
  exact absurd (by simp) hN
 ·exact absurd (r2 N z) hN
theorem ri (S:SetAt X s.heap a o es ep t ks) {k:K}{b:Addr}{N:Nat}{Q:SetFound->Shared->Prop}(hr:X.knd.room A) (hb:X.knd.is s.heap k b) (hN:(Sa.stand t (X.knd.hash k) N).j∉t.place.toList) (hlt:∀m,m<N->(Sa.stand t (X.knd.hash k) m).j∈t.place.toList) (hfar:N<10*(t.mask+14))
  (h1:k∈ks->Q (.there none) s) (h2:k∉ks->Q (.free (Sa.stand t (X.knd.hash k) N).j false) s) :
  ∀d m fuel (st:Option Probe),N-m=d->m≤N->d<fuel->st.getD (t.probeStart (X.knd.hash k))=Sa.stand t (X.knd.hash k) m->(∀q,q<m->∀i:Nat,t.place[i]?=some (Sa.stand t (X.knd.hash k) q).j->ks[i]?≠some k)->
   wpAny (model prog w) A (setSearchFrom a (.ref b) (X.knd.hash k) true fuel st) Q E s:=by
 intro d
 induction d using Nat.strongRecOn with
 | ind d ih=>
  intro m fuel st hd hm hf hst pre
  obtain⟨fuel,rfl⟩:∃f,fuel=f+1:=⟨fuel-1,by lia⟩
  rw[vo]
  refine wpAny_bind (wpAny_setState_of S.ob S.dt S.fits ?_)
  dsimp only
  rw[if_neg (by unfold SetTable.gaveWay;rw[odd S.full.tab.msk];exact Bool.false_ne_true)]
  obtain⟨m',a1,a2,a3,a4⟩:=rY (H:=fun i=>(es[i]?.map (·.1)).getD 0) S.full.tab hN hlt (10*turns t.mask) m hm (by unfold turns;lia)
  have hne:∀q,m≤q->q<m'->∀i:Nat,t.place[i]?=some (Sa.stand t (X.knd.hash k) q).j->ks[i]?≠some k:=fun q b1 b2 i hi z=>by
   obtain⟨e,k',c1,c2,_,_,_,c3⟩:=yk S hi
   have:=a4 q b1 b2 i hi
   rw[c2] at z
   cases z
   simp[c1] at this
   exact this c3
  rw[hst]
  unfold probe
  rcases a3 with⟨e0,eg⟩|⟨lt,i,hi,hh,eg⟩
  ·rw[eg]
   subst e0
   refine wpAny_pure (h2 fun hk=>?_)
   obtain⟨n,i,n1,n2,n3⟩:=AX S hk hN
   rcases Nat.lt_or_ge n m with z|z
   ·exact pre n z i n2 n3
   ·exact hne n z n1 i n2 n3
  ·rw[eg]
   obtain⟨e,k',c1,c2,c,c3,c4,c5⟩:=yk S hi
   obtain⟨eh,ev⟩:=e
   dsimp only at c3 c5
   subst c3
   dsimp only
   have body:wpAny (model prog w) A (do
     let some (_,y):=es[i]? | unsupported "internal:set-entry"
     let equal ←holding [y] (eqBool y (.ref b))
     let (es',_,t') ←setState a
     if true&&equal then return .there none
     let some same:=t'.sameMemory t.moves t.mask|unsupported "set.changed-during-lookup:is-the-new-block-at-the-old-address"
     let still ←match (if same then t'.slot (Sa.stand t (X.knd.hash k) m').j else .empty) with
      | .live i'=>match es'[i']? with
       | some (_,y')=>do pure (if ←isSame y' y then some i' else none)
       | none=>pure none
      | _=>pure none
     match still with
     | none=>rule "set.search.anew";setSearchFrom a (.ref b) (X.knd.hash k) true fuel none
     | some i'=>if equal then return .there (some i') else setSearchFrom a (.ref b) (X.knd.hash k) true fuel (some (Sa.stand t (X.knd.hash k) (m'+1)))) Q E s:=by
    rw[c1]
    dsimp only
    refine wpAny_bind (wpAny_holding (X.knd.eqBool hr c4 hb (wpAny_bind (wpAny_setState_of S.ob S.dt S.fits ?_))))
    dsimp only
    by_cases z:k'=k
    ·subst z
     rw[decide_eq_true rfl]
     exact wpAny_pure (h1 (List.mem_of_getElem? c2))
    ·rw[decide_eq_false z]
     simp only[Bool.and_false,Bool.false_eq_true,if_false]
     have sm:t.sameMemory t.moves t.mask=some true:=by unfold sameMemory;simp
     rw[sm]
     dsimp only
     rw[if_pos rfl,Sa.slot_some S.full.tab hi]
     dsimp only
     rw[c1]
     dsimp only
     refine wpAny_bind (wpAny_isSame_ref_self (wpAny_bind (wpAny_pure ?_)))
     rw[if_pos rfl]
     dsimp only
     refine ih (N-(m'+1)) (by lia) (m'+1) fuel _ rfl (by lia) (by lia) rfl fun q hq i' hi'=>?_
     rcases Nat.lt_or_ge q m with y|y
     ·exact pre q y i' hi'
     ·rcases Nat.lt_or_ge q m' with x|x
      ·exact hne q y x i' hi'
      ·obtain rfl:q=m':=by lia
       have e1:=Sa.slot_some S.full.tab hi
       have e2:=Sa.slot_some S.full.tab hi'
       rw[e1] at e2
       cases e2
       rw[c2]
       intro w'
       cases w'
       exact z rfl
   cases hled:t.led with
   | true=>
    simp only[hled,Bool.not_true,Bool.false_eq_true,if_false]
    exact body
   | false=>
    simp only[hled,Bool.not_false,if_true]
    refine wpAny_bind (tS hb _ (fun v hv=>?_) ?_)
    ·obtain⟨x,hx,rfl⟩:=List.mem_map.mp hv
     have hx':x∈es.toList:=by
      rw[Array.toList_filter] at hx
      exact(List.mem_filter.mp hx).1
     obtain⟨k2,_,b2,e2,g2,_⟩:=eP S.el x hx'
     exact⟨b2,k2,e2,g2⟩
    ·simp only[Bool.false_eq_true,if_false]
     exact body
theorem vp (S:SetAt X s.heap a o es ep t ks) {k:K}{b:Addr}{Q:SetFound->Shared->Prop}(hr:X.knd.room A) (hb:X.knd.is s.heap k b) (h1:k∈ks->Q (.there none) s)
  (h2:k∉ks->∀N,(Sa.stand t (X.knd.hash k) N).j∉t.place.toList->(∀m,m<N->(Sa.stand t (X.knd.hash k) m).j∈t.place.toList)->Q (.free (Sa.stand t (X.knd.hash k) N).j false) s):wpAny (model prog w) A (setSearch a (.ref b) (X.knd.hash k) true) Q E s:=by
 obtain⟨N,n1,n2,n3⟩:=Sa.meets S.full.tab (X.knd.hash k) (by have:=S.few;lia)
 have hm:t.mask≤255:=by rcases S.full.tab.msk with e|e|e|e|e|e <;> lia
 exact ri S hr hb n2 n3 n1 h1 (fun z=>h2 z N n2 n3) N 0 100000 none rfl (Nat.zero_le _) (by lia) rfl fun q hq=>absurd hq (Nat.not_lt_zero _)
end
end L2
namespace L2
open PySem PySem.Spec PyProof.Rows PySem.SetTable
theorem xq (a:Addr) (x:Value) (h:Int) (fuel:Nat):setAddHashedIn a x h (fuel+1)=(do
  let (es₀,_,t₀) ←setState a
  if byScan x es₀ then
   match ←setAddByScan a x h es₀ t₀ with
   | some added=>return added
   | none=>return ←setAddHashedIn a x h fuel
  let .free slot wasDummy ←setSearch a x h (adding:=true)|return false
  let (es,_,t) ←setState a
  let (t,p):=t.put slot
  let byValue ←if t.plain then hashByValue 8 x else pure true
  let t:=if byValue then t else { t with plain:=false }
  storeSet a (SetTable.insertAt es p (h,x)) t
  if !wasDummy&&t.tooFull then setRelay a (SetTable.grown (es.size+1))
  return true):=rfl
theorem xr (a:Addr) (wanted:Nat):setRelay a wanted=(do
  let (es,_,t) ←setState a
  if SetTable.sizeAbove wanted > sizeLine then unsupported "set:memory"
  let (es,t) ←(do
   let some (t,order):=t.relaid (es.map (·.1)) wanted|unsupported "internal:set-table-without-room"
   let es':=order.filterMap (es[·]?)
   if es'.size != es.size then unsupported "internal:set-table-lost-an-element"
   pure (es',t):Sem (Array (Int×Value)×SetTable))
  storeSet a es t):=rfl
theorem rj {α β:Type}{R:α->β->Prop}{l l':List α}(p:l'.Perm l):∀{m:List β},Paired R l m->∃m',Paired R l' m'∧m'.Perm m:=by
 induction p with
 | nil=>intro m r;exact⟨m,r,List.Perm.refl _⟩
 | cons x _ ih=>
  intro m r
  cases r with
  | cons h t=>
   obtain⟨m',r',p'⟩:=ih t
   exact⟨_,.cons h r',p'.cons _⟩
 | swap x y l=>
  intro m r
  cases r with
  | cons h1 t=>
   cases t with
   | cons h2 t=>exact⟨_,.cons h2 (.cons h1 t),List.Perm.swap _ _ _⟩
 | trans _ _ ih1 ih2=>
  intro m r
  obtain⟨m1,r1,p1⟩:=ih2 r
  obtain⟨m2,r2,p2⟩:=ih1 r1
  exact⟨m2,r2,p2.trans p1⟩
section
variable {prog:Program}{w:World}{K:Type} [DecidableEq K] {A:Around}{E:Value->Shared->Prop}{s:Shared}{X:EKind prog w K}{a:Addr}{o:Obj}{es:Array Sa.Elem}{ep:Nat}{t:SetTable}{ks:List K}
theorem jz {h h':Heap}{e:Sa.Elem}{k:K}(x:El X h e k) (kp:∀b o,o.cls=.type "tuple"->h.get? b=some o->h'.get? b=some o):El X h' e k:=
 let ⟨b,e1,e2,e3⟩:=x;⟨b,e1,X.keep e2 kp,e3⟩
theorem mQ {h:Heap}(ho:h.get? a=some o) (hx:o.ExactSet) (hd:o.data=.set es ep t) (es':Array Sa.Elem) (t':SetTable) :
  (h.update a (Obj.putSet es' t')).get? a=some { o with data:=.set es' (ep+1) t' }∧(∀b u,b≠a->h.get? b=some u->(h.update a (Obj.putSet es' t')).get? b=some u)∧∀b u,u.cls=.type "tuple"->h.get? b=some u->(h.update a (Obj.putSet es' t')).get? b=some u:=by
 have ot:∀b u,b≠a->h.get? b=some u->(h.update a (Obj.putSet es' t')).get? b=some u:=fun b u hb q=>(Heap.get?_update_other _ _ (Ne.symm hb)).trans q
 refine⟨?_,ot,fun b u hc q=>ot b u ?_ q⟩
 ·have z:=Heap.get?_update_self (Obj.putSet es' t') ho (by rw[putSet_of es' t' hd];rfl)
  rw[putSet_of es' t' hd] at z
  exact z
 ·rintro rfl
  rw[ho] at q
  cases q
  rw[hx.1] at hc
  injection hc with hc
  exact absurd hc (by decide)
def DK (X:EKind prog w K) (a:Addr) (k:K) (ks:List K) (led:Bool) (h h':Heap):Prop:=
 (∀b u,b≠a->h.get? b=some u->h'.get? b=some u)∧∃o es ep t ks',SetAt X h' a o es ep t ks'∧t.led=led∧(k∈ks->ks'=ks)∧(k∉ks->ks'.Perm (k::ks))
theorem xu {Q:Unit->Shared->Prop}{o:Obj}{es:Array Sa.Elem}{ep:Nat}{t:SetTable}{ks:List K}(ho:s.heap.get? a=some o) (hx:o.ExactSet) (hd:o.data=.set es ep t) (F:Sa.Full t es) (hle:t.place.size≤t.mask) (pl:t.plain=true)
  (el:Paired (El X s.heap) es.toList ks) (nd:ks.Nodup) {n M:Nat}(hM:Sa.Mk M) (hz:sizeAbove n=M+1) (hs:es.size*5<M*3)
  (h:∀h',(∀b u,b≠a->s.heap.get? b=some u->h'.get? b=some u)->(∃o es ep t' ks',SetAt X h' a o es ep t' ks'∧t'.led=t.led∧ks'.Perm ks)->Q () { s with heap:=h' }):wpAny (model prog w) A (setRelay a n) Q E s:=by
 have hf:t.fits es.size=true:=by
  unfold SetTable.fits SetTable.fill
  rw[F.tab.nod,F.size]
  rw[F.size] at hle
  simp
  exact hle
 rw[xr]
 refine wpAny_bind (wpAny_setState_of ho hd hf ?_)
 dsimp only
 have hM':M≤255:=by rcases hM with e|e|e|e|e|e <;> lia
 rw[if_neg (by rw[hz,sizeLine_eq];lia)]
 obtain⟨t',order,e1,e2,e3,e4,e5,e6,e7⟩:=Sa.laid_ok (mask:=M) (finger:=t.finger) (moves:=t.movedTo M) (led:=t.led) (plain:=t.plain) hM es (by lia)
 have er:t.relaid (es.map (·.1)) n=some (t',order):=by
  unfold relaid
  rw[hz]
  exact e1
 rw[er]
 dsimp only
 have ne:((order.filterMap (es[·]?)).size != es.size)=false:=by rw[e5];simp
 rw[ne]
 simp only[Bool.false_eq_true,if_false]
 refine wpAny_bind (wpAny_pure (wpAny_storeSet_of ho hd ?_ (by rw[e5,sizeLine_eq];lia)))
 obtain⟨g1,g2,g3⟩:=mQ ho hx hd (order.filterMap (es[·]?)) t'
 obtain⟨ks',q1,q2⟩:=rj e6 el
 refine h _ g2 ⟨_,_,_,t',ks',⟨g1,hx,rfl,e7,?_,by rw[e3];exact pl,aJ (fun _ _ z=>jz z g3) q1,q2.nodup_iff.mpr nd⟩,e4,q2⟩
 rw[e7.size,e2,e5]
 exact hs
theorem AY (S:SetAt X s.heap a o es ep t ks) {k:K}{b:Addr}{Q:Bool->Shared->Prop}(hr:X.knd.room A) (hb:X.knd.is s.heap k b) (hl:ks.length<70)
  (h:∀h' f,DK X a k ks t.led s.heap h'->Q f { s with heap:=h' }):wpAny (model prog w) A (setAddHashed a (.ref b) (X.knd.hash k)) Q E s:=by
 unfold setAddHashed
 refine wpAny_holding ?_
 show wpAny _ _ (setAddHashedIn a (.ref b) (X.knd.hash k) (99999+1)) _ _ _
 rw[xq]
 refine wpAny_bind (wpAny_setState_of S.ob S.dt S.fits ?_)
 dsimp only
 have bs:byScan (.ref b) es=false:=by unfold byScan Value.scannable;rfl
 rw[bs]
 simp only[Bool.false_eq_true,if_false]
 have len:es.size=ks.length:=by rw[←Array.length_toList];exact S.el.length
 refine wpAny_bind (vp S hr hb (fun hk=>?_) fun hk N n1 n2=>?_)
 ·exact wpAny_pure (h s.heap false ⟨fun _ _ _ q=>q,o,es,ep,t,ks,S,rfl,fun _=>rfl,fun z=>absurd hk z⟩)
 ·dsimp only
  refine wpAny_bind (wpAny_setState_of S.ob S.dt S.fits ?_)
  dsimp only
  obtain⟨p1,p2,p3,p4,p5,p6,p7⟩:=Sa.put_tab S.full.tab (Sa.stand t (X.knd.hash k) N).j
  have F':=Sa.full_put S.full (e:=(X.knd.hash k,.ref b)) n1 n2
  dsimp only at F'
  obtain⟨bl,_,_⟩:=Sa.below_spec S.full.tab.rise (Sa.stand t (X.knd.hash k) N).j
  have sz:=F'.size
  have fs:=S.full.size
  have sz1:(insertAt es (t.put (Sa.stand t (X.knd.hash k) N).j).2 (X.knd.hash k,Value.ref b)).size=es.size+1:=Sa.ins_size _ _ (by rw[p1];lia)
  rw[p5,S.pl]
  simp only[if_true]
  refine wpAny_bind (X.byVal hb ?_)
  simp only[if_true]
  generalize (t.put (Sa.stand t (X.knd.hash k) N).j).1=t' at *
  generalize (t.put (Sa.stand t (X.knd.hash k) N).j).2=p at *
  refine wpAny_bind (wpAny_storeSet_of S.ob S.dt ?_ (by rw[sz1,sizeLine_eq];lia))
  obtain⟨g1,g2,g3⟩:=mQ S.ob S.ex S.dt (insertAt es p (X.knd.hash k,Value.ref b)) t'
  have el':Paired (El X (s.heap.update a (Obj.putSet (insertAt es p (X.knd.hash k,Value.ref b)) t'))) (insertAt es p (X.knd.hash k,Value.ref b)).toList (ks.take p++k::ks.drop p):=by
   rw[Sa.ins_list]
   have el0:=aJ (fun _ _ z=>jz z g3) S.el
   exact cN (tJ p el0) (.cons ⟨b,rfl,X.keep hb g3,rfl⟩ (tK p el0))
  have pm:(ks.take p++k::ks.drop p).Perm (k::ks):=by
   refine List.perm_middle.trans ?_
   rw[List.take_append_drop]
  have nd':(ks.take p++k::ks.drop p).Nodup:=pm.nodup_iff.mpr (List.nodup_cons.mpr ⟨hk,S.nd⟩)
  have few:=S.few
  have few':t'.place.size≤t'.mask:=by rw[sz,sz1,p2];lia
  have ps:t'.place.size=es.size+1:=by rw[sz,sz1]
  by_cases full:t'.tooFull=true
  ·rw[if_pos (by rw[full];rfl)]
   have full:t'.fill*5 ≥ t'.mask*3:=by simpa [SetTable.tooFull] using full
   unfold SetTable.fill at full
   rw[p4,ps,p2] at full
   simp only[List.size_toArray,List.length_nil,Nat.add_zero,Array.size_empty] at full
   rw[fs] at few
   have key:∃M,Sa.Mk M∧sizeAbove (grown (es.size+1))=M+1∧(es.size+1)*5<M*3:=by
    rcases S.full.tab.msk with e|e|e|e|e|e
    ·rw[e] at few full
     have:es.size=4:=by lia
     rw[this]
     exact⟨31,.inr (.inl rfl),by decide,by decide⟩
    ·rw[e] at few full
     have:es.size=18:=by lia
     rw[this]
     exact⟨127,.inr (.inr (.inl rfl)),by decide,by decide⟩
    ·rw[e] at few full
     lia
    ·rw[e] at few full
     have:es.size=8:=by lia
     rw[this]
     exact⟨63,.inr (.inr (.inr (.inr (.inl rfl)))),by decide,by decide⟩
    ·rw[e] at few full
     have:es.size=37:=by lia
     rw[this]
     exact⟨255,.inr (.inr (.inr (.inr (.inr rfl)))),by decide,by decide⟩
    ·rw[e] at few full
     lia
   obtain⟨M,m1,m2,m3⟩:=key
   refine wpAny_bind (xu (s:={ s with heap:=s.heap.update a (Obj.putSet (insertAt es p (X.knd.hash k,Value.ref b)) t') }) g1 S.ex rfl F' few' (by rw[p5,S.pl]) el' nd' m1 m2 (by rw[sz1];exact m3) fun h' k1 ⟨o2,es2,ep2,t2,ks2,S2,l2,pm2⟩=>?_)
   exact wpAny_pure (h h' true ⟨fun b' u hb' q=>k1 b' u hb' (g2 b' u hb' q),o2,es2,ep2,t2,ks2,S2,l2.trans p6,fun z=>absurd z hk,fun _=>pm2.trans pm⟩)
  ·have nf:t'.tooFull=false:=by simpa using full
   rw[if_neg (by rw[nf];simp)]
   refine wpAny_pure (h _ true ⟨g2,_,_,_,t',_,⟨g1,S.ex,rfl,F',?_,by rw[p5,S.pl],el',nd'⟩,p6,fun z=>absurd z hk,fun _=>pm⟩)
   have nf:¬t'.fill*5 ≥ t'.mask*3:=by simpa [SetTable.tooFull] using nf
   unfold SetTable.fill at nf
   rw[p4] at nf
   simp only[List.size_toArray,List.length_nil,Nat.add_zero,Array.size_empty] at nf
   lia
end
end L2
namespace L2
open PySem PySem.Spec PyProof.Rows PySem.SetTable
section
variable {prog:Program}{w:World}{K:Type} [DecidableEq K] {A:Around}{E:Value->Shared->Prop}{X:EKind prog w K}
abbrev xw (X:EKind prog w K) (h:Heap) (v:Value) (k:K):Prop:=∃b,v=Value.ref b∧X.knd.is h k b
structure Fill (X:EKind prog w K) (h:Heap) (S:Addr) (keys:List K) (led:Bool):Prop where
 ex:∃o es ep t ks,SetAt X h S o es ep t ks∧(∀k,k∈ks↔k∈keys)∧t.led=led
theorem xx {led:Bool}{h0:Heap}{S I l:Addr}{items:Array Value}{keys:List K}{R:Result->Shared->Prop}(hh:A.in1.handled=none) (hr:X.knd.room A.in1) (hI:I≠l) (hSI:S≠I) (hSl:S≠l) (p:Paired (xw X h0) items.toList keys) (hl:∀js:List K,js.Nodup->(∀x∈js,x∈keys)->js.length<70) :
  ∀(d i:Nat) (s:Shared),items.size-i=d->i≤items.size->(s.heap.IsListIter I l i∧s.heap.IsList l items)->(∀b o,b≠S->b≠I->h0.get? b=some o->s.heap.get? b=some o)->(∀b o,h0.get? b=some o->b≠S∧b≠I)->
   Fill X s.heap S (keys.take i) led->
   (∀h' tk,(∀b o,b≠S->b≠I->s.heap.get? b=some o->h'.get? b=some o)->Fill X h' S keys led->R (.ok (.ret .none)) { s with heap:=h',toks:=tk })->
   codeAny (model prog w) A (.builtin "set.update.loop" ⟨[.ref S,.ref I],[]⟩) R s:=by
 have W:=Walks.list (prog:=prog) (w:=w) hh I l (Ne.symm hI) items
 have kl:items.size=keys.length:=by rw[←Array.length_toList];exact p.length
 intro d
 induction d with
 | zero=>
  intro i s hd hi st kp nw F h
  obtain rfl:i=items.size:=by lia
  refine codeAny_builtin PyProof.Rows.F.entry_set_update_loop ?_
  rw[Around.under_plainId PyProof.Rows.F.plain_set_update_loop _]
  show wpAny _ A.in1 (pyNext (.ref I) >>= _) _ _ s
  refine wpAny_bind (W.done s _ _ st fun h' tk k1=>?_)
  show wpAny _ A.in1 (ret Value.none) _ _ _
  have up:∀b o,b≠I->s.heap.get? b=some o->h'.get? b=some o:=fun b o hb e=>k1 b o (by simpa using hb) e
  refine wpAny_pure (h h' tk (fun b o _ hb e=>up b o hb e) ?_)
  obtain⟨o,es,ep,t,ks,S1,m,ld⟩:=F
  rw[kl,List.take_length] at m
  refine⟨o,es,ep,t,ks,⟨up S o hSI S1.ob,S1.ex,S1.dt,S1.full,S1.few,S1.pl,aJ (fun _ _ z=>jz z fun b u hc q=>?_) S1.el,S1.nd⟩,m,ld⟩
  refine up b u ?_ q
  rintro rfl
  obtain⟨⟨oi,ei,ci,_⟩,_⟩:=st
  rw[ei] at q
  cases q
  rw[ci] at hc
  injection hc with hc
  exact absurd hc (by decide)
 | succ d ih=>
  intro i s hd hi st kp nw F h
  have hlt:i<items.size:=by lia
  refine codeAny_builtin PyProof.Rows.F.entry_set_update_loop ?_
  rw[Around.under_plainId PyProof.Rows.F.plain_set_update_loop _]
  show wpAny _ A.in1 (pyNext (.ref I) >>= _) _ _ s
  refine wpAny_bind (W.item i s _ _ hlt st fun v h1 tk hv st1 k1=>?_)
  have up:∀b o,b≠I->s.heap.get? b=some o->h1.get? b=some o:=fun b o hb e=>k1 b o (by simpa using hb) e
  obtain⟨k,hk,b,rfl,hb⟩:=bR (i:=i) (a:=v) p (by rw[Array.getElem?_toList];exact hv)
  have hb1:X.knd.is h1 k b:=X.keep hb fun b' o' _ q=>up b' o' (nw b' o' q).2 (kp b' o' (nw b' o' q).1 (nw b' o' q).2 q)
  obtain⟨o,es,ep,t,ks,S1,m,ld⟩:=F
  have S2:SetAt X h1 S o es ep t ks:=⟨up S o hSI S1.ob,S1.ex,S1.dt,S1.full,S1.few,S1.pl,aJ (fun _ _ z=>jz z fun b' u hc q=>up b' u (by
   rintro rfl
   obtain⟨⟨oi,ei,ci,_⟩,_⟩:=st
   rw[ei] at q
   cases q
   rw[ci] at hc
   injection hc with hc
   exact absurd hc (by decide)) q) S1.el,S1.nd⟩
  show wpAny _ A.in1 (holding [Value.ref b] (setAdd S (.ref b)) >>= _) _ _ _
  refine wpAny_bind (wpAny_holding ?_)
  unfold setAdd
  refine wpAny_holding (wpAny_bind (X.knd.pyHash hr hb1 ?_))
  have few:ks.length<70:=hl ks S1.nd fun x hx=>List.mem_of_mem_take ((m x).mp hx)
  refine AY (s:={ s with heap:=h1,toks:=tk+X.knd.draws k }) S2 hr hb1 few fun h2 f hh9=>?_
  obtain⟨k2,o2,es2,ep2,t2,ks2,S3,ld2,q1,q2⟩:=hh9
  refine wpAny_pure ⟨plainId_quiet PyProof.Rows.F.plain_set_update_loop _,ih (i+1) _ (by lia) (by lia) ?_ (fun b' o' z1 z2 q=>k2 b' o' z1 (up b' o' z2 (kp b' o' z1 z2 q))) nw ⟨o2,es2,ep2,t2,ks2,S3,fun x=>?_,ld2.trans ld⟩ fun h3 tk3 k3 F3=>?_⟩
  ·obtain⟨⟨oi,ei,ci⟩,ol,el,cl⟩:=st1
   exact⟨⟨oi,k2 I oi (Ne.symm hSI) ei,ci⟩,ol,k2 l ol (Ne.symm hSl) el,cl⟩
  ·rw[List.take_add_one,hk,List.mem_append]
   simp only[Option.toList_some,List.mem_singleton]
   by_cases z:k∈ks
   ·rw[q1 z,m x]
    constructor
    ·exact .inl
    ·rintro(y|rfl)
     ·exact y
     ·exact(m _).mp z
   ·rw[(q2 z).mem_iff,List.mem_cons,m x]
    exact or_comm
  ·exact h h3 tk3 (fun b' o' z1 z2 q=>k3 b' o' z1 z2 (k2 b' o' z1 (up b' o' z2 q))) F3
theorem vq {h:Heap}{S:Addr}{led:Bool}(e:h.get? S=some { cls:=.type "set",dict:=none,data:=.set #[] 0 (.fresh 0 0 led) }):Fill X h S [] led:=
 ⟨_,#[],0,.fresh 0 0 led,[],⟨e,⟨rfl,rfl,rfl⟩,rfl,⟨⟨.inl rfl,List.Pairwise.nil,fun j hj=>(List.not_mem_nil hj).elim,rfl⟩,rfl,fun x hx=>(List.not_mem_nil hx).elim⟩,(by show 0*5<7*3;decide),rfl,.nil,List.nodup_nil⟩,fun _=>Iff.rfl,rfl⟩
variable {s:Shared}
abbrev du (led:Bool):Obj:={ cls:=.type "set",dict:=none,data:=.set #[] 0 (.fresh 0 0 led) }
abbrev iu (w:World):Bool:=!(w.params.followText "set-order")
theorem zA {x:Value}{Q₁:Value->Shared->Prop}(h:Q₁ (.ref s.heap.objs.size) { s with heap:=s.heap.push (du (iu w)) }) :
  codeAny (model prog w) A (.call (.builtin "set.__new__") ⟨[.type "set",x],[]⟩) (wants Q₁ E) s:=by
 refine codeAny_of_tree (wpAny_bind (wpAny_of_eq (PySem.F.newCall_set_1 x) (wpAny_pure ⟨plainId_quiet PySem.F.plain_set_new _,codeAny_builtin PySem.F.entry_set_new ?_⟩)))
 rw[Around.under_plainId PySem.F.plain_set_new _]
 have c1:=sub_set_self
 unfold Builtin.«set.__new__» Builtin.Frozenset.newClass
 obtain⟨hp,g,d,tk,os⟩:=s
 dsimp only at h ⊢
 wp_walk
 refine wpAny_askSetting (wpAny_pure ?_)
 dsimp only
 simp only[newObj]
 exact wpAny_bind (wpAny_alloc (wpAny_pure (wpAny_pure h)))
theorem AZ {x:Value}{Q:Value->Shared->Prop}
  (h:wpAny (model prog w) A.in1.in1 (Builtin.«set.__init__» ⟨[.ref s.heap.objs.size,x],[]⟩) (fun fin s'=>∃r,fin=.done (.ret r)∧r=.none∧Q (.ref s.heap.objs.size) s') E { s with heap:=s.heap.push (du (iu w)) }) :
  wpAny (model prog w) A (call (.type "set") [x]) Q E s:=by
 have T:=PySem.F.called_set
 obtain⟨c,tl,hmro⟩:=T.mro
 have c1:=T.made
 have c2:=T.sub
 have c3:=T.notType
 have c4:=T.canCreate
 have c5:=PySem.F.typeCall_set_1 x
 refine wpAny_call (codeAny_of_tree (wpAny_pure ⟨Code.quiet_builtin _ (by decide +kernel),codeAny_builtin PySem.F.entry_type_call ?_⟩))
 rw[Around.under_plain (weight_type_call_type "set" [x] []) rfl]
 repeat (any_goals (first|assumption|wp_step))
 refine codeAny_mono (zA (x:=x) (E:=E) (Q₁:=fun obj s₁=>obj=.ref s.heap.objs.size∧s₁={ s with heap:=s.heap.push (du (iu w)) }) ⟨rfl,rfl⟩) fun r s₁ q=>?_
 match r,q with
 | .error e,q=>exact q
 | .ok (.ret obj),⟨e1,e2⟩=>
  subst e1 e2
  have ty:Shared.TypeIs { s with heap:=s.heap.push (du (iu w)) } (.ref s.heap.objs.size) "set":=⟨_,Heap.get?_push_size _ rfl,rfl⟩
  have c6:=T.init.lookup
  have c7:=T.init.bind (.ref s.heap.objs.size)
  repeat (any_goals (first|assumption|wp_step))
  refine codeAny_mono (codeAny_call_builtin (R:=wants (fun r s₂=>r=.none∧Q (.ref s.heap.objs.size) s₂) E) T.init.plain PySem.F.entry_set_init (check_set_init_1 ty (wpAny_mono h (fun fin s' ⟨r,e,z⟩=>?_) fun _ _ z=>z))) fun r₂ s₂ q₂=>?_
  ·subst e
   exact z
  ·match r₂,q₂ with
   | .error e,q₂=>exact q₂
   | .ok (.ret r),⟨e3,q₂⟩=>
    subst e3
    repeat (any_goals (first|assumption|wp_step))
end
end L2
namespace L2
open PySem PySem.Spec PyProof.Rows PySem.SetTable
section
variable {prog:Program}{w:World}{K:Type} [DecidableEq K] {A:Around}{E:Value->Shared->Prop}{X:EKind prog w K}{s:Shared}
theorem rm {l:Addr}{items:Array Value}{keys:List K}{Q:Value->Shared->Prop}(hh:A.handled=none) (hr:X.knd.room A.in1.in1.in1) (hl:s.heap.IsList l items) (p:Paired (xw X s.heap) items.toList keys) (hn:∀js:List K,js.Nodup->(∀x∈js,x∈keys)->js.length<70)
  (h:∀h' tk,(∀b o,s.heap.get? b=some o->h'.get? b=some o)->Fill X h' s.heap.objs.size keys (iu w)->Q (.ref s.heap.objs.size) { s with heap:=h',toks:=tk }):wpAny (model prog w) A (call (.type "set") [.ref l]) Q E s:=by
 refine AZ ?_
 generalize hled:iu w=led at h ⊢
 obtain⟨⟨ocls,odict,odata,oslots⟩,hol,hcl,nl,hdl⟩:=hl
 simp only at hcl hdl
 subst hcl hdl
 have lt:l<s.heap.objs.size:=Heap.lt_size hol
 have hS:(s.heap.push (du led)).get? s.heap.objs.size=some (du led):=Heap.get?_push_size _ rfl
 have hT:Shared.TypeIs { s with heap:=s.heap.push (du led) } (.ref s.heap.objs.size) "set":=⟨_,hS,rfl⟩
 have hol':(s.heap.push (du led)).get? l=some { cls:=.type "list",dict:=odict,data:=.seq items nl,slots:=oslots }:=Heap.get?_push_of_some _ hol
 have n1:=PySem.F.sub_list_set
 have n2:=PySem.F.sub_list_frozenset
 have n3:(Value.type "list"==Value.type "dict")=false:=by decide
 have hl1:(s.heap.push (du led)).IsList l items:=⟨_,hol',rfl,nl,rfl⟩
 unfold Builtin.«set.__init__» noKeywords Builtin.Frozenset.updateFrom
 generalize hPI:pyIter=PI
 wp_walk
 subst hPI
 refine wpAny_pyIter_list hl1 (wpAny_bind (wpAny_runValue ?_))
 have sz1:(s.heap.push (du led)).objs.size=s.heap.objs.size+1:=Heap.size_push ..
 refine xx (X:=X) (h0:=s.heap) (S:=s.heap.objs.size) (I:=(s.heap.push (du led)).objs.size) (l:=l) (items:=items) (keys:=keys) ?_ ?_ (by rw[sz1];exact Nat.ne_of_gt (Nat.lt_succ_of_lt lt)) (by rw[sz1];exact Nat.ne_of_lt (Nat.lt_succ_self _)) (Nat.ne_of_gt lt) p hn (items.size-0) 0 _ rfl (Nat.zero_le _)
  ⟨⟨_,Heap.get?_push_size _ rfl,rfl,rfl⟩,hl1.push _⟩ (fun b o _ _ e=>Heap.get?_push_of_some _ (Heap.get?_push_of_some _ e)) (fun b o e=>⟨Nat.ne_of_lt (Heap.lt_size e),by rw[sz1];exact Nat.ne_of_lt (Nat.lt_succ_of_lt (Heap.lt_size e))⟩)
  (vq (led:=led) (Heap.get?_push_of_some _ hS)) fun h' tk k1 F=>?_
 ·simp[hh]
 ·exact hr
 ·refine wpAny_pure ?_
  refine wpAny_pure ⟨_,rfl,rfl,h h' tk (fun b o e=>?_) F⟩
  exact k1 b o (Nat.ne_of_lt (Heap.lt_size e)) (by rw[sz1];exact Nat.ne_of_lt (Nat.lt_succ_of_lt (Heap.lt_size e))) (Heap.get?_push_of_some _ (Heap.get?_push_of_some _ e))
end
end L2
namespace L2
open PySem PySem.Spec PyProof.Rows PySem.SetTable
section
variable {prog:Program}{w:World}{A:Around}{E:Value->Shared->Prop}{s:Shared}
theorem pF (n:Nat) {a:Addr}{items:Array Value}{Q:Bool->Shared->Prop}(tp:s.heap.IsTuple a items) (hv:∀v∈items.toList,∀(Q:Bool->Shared->Prop),Q true s->wpAny (model prog w) A (hashByValue n v) Q E s) (h:Q true s) :
  wpAny (model prog w) A (hashByValue (n+1) (.ref a)) Q E s:=by
 have hT:=eO tp
 obtain⟨o,ho,hcl,n',hd⟩:=tp
 unfold hashByValue
 refine wpAny_bind (wpAny_specialOf hT F.slot_tuple_hash.lookup ?_)
 refine wpAny_bind (wpAny_seqItems ho hd ?_)
 refine wpAny_bind ?_
 show wpAny _ _ (forIn items _ _) _ _ s
 rw[←Array.forIn_toList]
 refine wpAny_forIn_list _ (fun rest r s'=>r.1=none∧s'=s∧∀v∈rest,v∈items.toList) _ ?turn ?fin _ _ ⟨rfl,rfl,fun v hv=>hv⟩
 case turn=>
  rintro v rest ⟨r1,r2⟩ s' ⟨hr,e,all⟩
  simp only at hr
  subst e hr
  refine wpAny_bind (hv v (all v List.mem_cons_self) _ ?_)
  simp only[Bool.not_true,Bool.false_eq_true,if_false]
  exact wpAny_pure ⟨rfl,rfl,fun u hu=>all u (List.mem_cons_of_mem _ hu)⟩
 case fin=>
  rintro⟨r1,r2⟩ s' ⟨hr,e,_⟩
  simp only at hr
  subst e hr
  exact wpAny_pure h
theorem pG (n:Nat) {a:Addr}{items:Array Value}{Q:Bool->Shared->Prop}(tp:s.heap.IsTuple a items) (hv:∀v∈items.toList,∀(Q:Bool->Shared->Prop),Q false s->wpAny (model prog w) A (ofAClassStatement n v) Q E s) (h:Q false s) :
  wpAny (model prog w) A (ofAClassStatement (n+1) (.ref a)) Q E s:=by
 have hT:=eO tp
 obtain⟨o,ho,hcl,n',hd⟩:=tp
 unfold ofAClassStatement
 refine wpAny_bind (wpAny_typeOf hT ?_)
 dsimp only
 rw[if_pos (by decide)]
 refine wpAny_bind (wpAny_pure ?_)
 simp only[Bool.not_true,Bool.false_eq_true,if_false]
 refine wpAny_bind (wpAny_seqItems ho hd ?_)
 dsimp only
 refine wpAny_bind ?_
 rw[←Array.forIn_toList]
 refine wpAny_forIn_list _ (fun rest r s'=>r.1=none∧s'=s∧∀v∈rest,v∈items.toList) _ ?turn ?fin _ _ ⟨rfl,rfl,fun v hv=>hv⟩
 case turn=>
  rintro v rest ⟨r1,r2⟩ s' ⟨hr,e,all⟩
  simp only at hr
  subst e hr
  refine wpAny_bind (hv v (all v List.mem_cons_self) _ ?_)
  simp only[Bool.false_eq_true,if_false]
  exact wpAny_pure ⟨rfl,rfl,fun u hu=>all u (List.mem_cons_of_mem _ hu)⟩
 case fin=>
  rintro⟨r1,r2⟩ s' ⟨hr,e,_⟩
  simp only at hr
  subst e hr
  exact wpAny_pure h
theorem xy (n:Nat) {ks:List Int}{a:Addr}{Q:Bool->Shared->Prop}(x:bB s.heap ks a) (h:Q true s):wpAny (model prog w) A (hashByValue (n+1) (.ref a)) Q E s:=by
 obtain⟨i,t,r⟩:=x
 refine pF n t (fun v hv Q' q=>?_) h
 obtain⟨k,_,t',e⟩:=eP r v hv
 subst e
 cases n <;> exact wpAny_pure q
theorem xz (n:Nat) {ks:List Int}{a:Addr}{Q:Bool->Shared->Prop}(x:bB s.heap ks a) (h:Q false s):wpAny (model prog w) A (ofAClassStatement (n+1) (.ref a)) Q E s:=by
 obtain⟨i,t,r⟩:=x
 refine pG n t (fun v hv Q' q=>?_) h
 obtain⟨k,_,t',e⟩:=eP r v hv
 subst e
 cases n <;> exact wpAny_pure q
theorem vv (n:Nat) {kss:List (List Int)}{a:Addr}{Q:Bool->Shared->Prop}(x:cD s.heap kss a) (h:Q true s):wpAny (model prog w) A (hashByValue (n+2) (.ref a)) Q E s:=by
 obtain⟨i,t,r⟩:=x
 refine pF (n+1) t (fun v hv Q' q=>?_) h
 obtain⟨ks,_,b,e,g⟩:=eP r v hv
 subst e
 exact xy n g q
theorem vw (n:Nat) {kss:List (List Int)}{a:Addr}{Q:Bool->Shared->Prop}(x:cD s.heap kss a) (h:Q false s):wpAny (model prog w) A (ofAClassStatement (n+2) (.ref a)) Q E s:=by
 obtain⟨i,t,r⟩:=x
 refine pG (n+1) t (fun v hv Q' q=>?_) h
 obtain⟨ks,_,b,e,g⟩:=eP r v hv
 subst e
 exact xz n g q
theorem xA {h h':Heap}{a:Addr}{ks:List Int}(x:bB h ks a) (k:∀b o,o.cls=.type "tuple"->h.get? b=some o->h'.get? b=some o):bB h' ks a:=by
 obtain⟨i,⟨o,e,c,n,d⟩,r⟩:=x
 exact⟨i,⟨o,k _ _ c e,c,n,d⟩,r⟩
theorem vx {h h':Heap}{a:Addr}{kss:List (List Int)}(x:cD h kss a) (k:∀b o,o.cls=.type "tuple"->h.get? b=some o->h'.get? b=some o):cD h' kss a:=by
 obtain⟨i,⟨o,e,c,n,d⟩,r⟩:=x
 exact⟨i,⟨o,k _ _ c e,c,n,d⟩,aJ (fun _ _ ⟨b,e,q⟩=>⟨b,e,xA q k⟩) r⟩
end
def DL (prog:Program) (w:World):EKind prog w (List (List Int)) where
 knd:=fW prog w
 byVal:=fun hk h=>vv 6 hk h
 noCls:=fun hk h=>vw 6 hk h
 keep:=fun hk k=>vx hk k
end L2
namespace L2
open PySem PySem.Spec PyProof.Rows PySem.SetTable
structure Wk (w:World) (h:Heap) (a:Addr) (es:Array Sa.Elem) (ep:Nat) (t:SetTable):Prop where
 ob:∃o,h.get? a=some o∧o.ExactSet∧o.data=.set es ep t
 rise:Sa.Rise t.place
 size:t.place.size=es.size
 fits:t.fits es.size=true
 pl:t.plain=true
 led:t.led=iu w
section
variable {prog:Program}{w:World}{A:Around}{E:Value->Shared->Prop}{s:Shared}{it a:Addr}{es:Array Sa.Elem}{ep i:Nat}{t:SetTable}
theorem DM (a:Addr) (slot given ep:Nat):setNext a slot given ep=(do
  let (es,epoch,t) ←setState a
  if ←setsByText then
   if epoch != ep then unsupported "set_iterator.__next__:elements-changed"
   return ((←setWalk a)[given]?).map fun e=>(e.2,slot)
  if (!t.plain&&es.size > 1:Bool) then unsupported "set_iterator.__next__:the-table-is-plain-no-more"
  (do if !t.led&&!es.isEmpty then unsupported "set:maker-not-led":Sem Unit)
  let i:=SetTable.below t.place slot
  return match es[i]?,t.place[i]? with
   | some (_,x),some j=>some (x,j+1)
   | _,_=>none):=rfl
theorem DN (a:Addr):setWalk a=(do
  let (es,epoch,t) ←setState a
  if ←setsByText then return pickOrder ((←ask).params.setOrder a epoch) es
  if (!t.plain&&es.size > 1:Bool) then return (←drawOrder es.size es.toList).toArray
  (do if !t.led&&es.size > 1 then unsupported "set:maker-not-led":Sem Unit)
  return es):=rfl
end
end L2
namespace L2
open PySem PySem.Spec PyProof.Rows PySem.SetTable
section
variable {prog:Program}{w:World}{A:Around}{E:Value->Shared->Prop}{s:Shared}{it a:Addr}{es:Array Sa.Elem}{ep i:Nat}{t:SetTable}
end
end L2
namespace L2
open PySem PySem.Spec PyProof.Rows PySem.SetTable
section
variable {prog:Program}{w:World}{A:Around}{E:Value->Shared->Prop}{s:Shared}{it a:Addr}{es:Array Sa.Elem}{ep i:Nat}{t:SetTable}
theorem Wk.keep {h h':Heap}(W:Wk w h a es ep t) (k:∀o,h.get? a=some o->h'.get? a=some o):Wk w h' a es ep t:=
 let ⟨o,e,r⟩:=W.ob;⟨⟨o,k o e,r⟩,W.rise,W.size,W.fits,W.pl,W.led⟩
end
end L2
namespace L2
open PySem PySem.Spec PyProof.Rows PySem.SetTable
section
variable {prog:Program}{w:World}{A:Around}{E:Value->Shared->Prop}{s:Shared}{a:Addr}{es:Array Sa.Elem}{ep:Nat}{t:SetTable}
end
def gB (w:World) (a:Addr) (bs:List Addr):HO:=.ext fun h=>∃es ep t,Wk w h a es ep t∧es.size<70∧es.toList.map (·.2)=bs.map Value.ref
theorem zB {P:Program}{w:World}{H:Hp}{h:Heap}{a:Addr}{bs:List Addr}(x:∃es ep t,Wk w h a es ep t∧es.size<70∧es.toList.map (·.2)=bs.map Value.ref):aS P w H h a (gB w a bs):=by
 refine⟨x,?_,fun h1 h2 ⟨es,ep,t,W,r⟩ k=>⟨es,ep,t,W.keep fun o e=>k o e,r⟩⟩
 obtain⟨_,_,_,W,_⟩:=x
 obtain⟨o,e,_⟩:=W.ob
 exact⟨o,e⟩
def EKind.only {prog:Program}{w:World}{K:Type} [DecidableEq K] (Y:EKind prog w K) (G:K->Addr->Prop):EKind prog w K where
 knd:={
  is:=fun h x b=>Y.knd.is h x b∧G x b
  hash:=Y.knd.hash
  draws:=Y.knd.draws
  room:=Y.knd.room
  inj:=fun p q=>Y.knd.inj p.1 q.1
  keeps:=fun p ho hd hs=>⟨Y.knd.keeps p.1 ho hd hs,p.2⟩
  pyHash:=fun hu hk h=>Y.knd.pyHash hu hk.1 h
  eqBool:=fun hu hx hy h=>Y.knd.eqBool hu hx.1 hy.1 h
  quiet:=fun hk h=>Y.knd.quiet hk.1 h }
 byVal:=fun hk h=>Y.byVal hk.1 h
 noCls:=fun hk h=>Y.noCls hk.1 h
 keep:=fun hk k=>⟨Y.keep hk.1 k,hk.2⟩
theorem cO {K:Type} [DecidableEq K]:∀(a c:List K),a.Nodup->(∀x∈a,x∈c)->a.length≤c.length:=by
 intro a
 induction a with
 | nil=>intro c _ _;exact Nat.zero_le _
 | cons x a ih'=>
  intro c nd hs
  rw[List.nodup_cons] at nd
  have hx:=hs x List.mem_cons_self
  have:=ih' (c.erase x) nd.2 fun y hy=>(List.mem_erase_of_ne (by rintro rfl;exact nd.1 hy)).mpr (hs y (List.mem_cons_of_mem _ hy))
  rw[List.length_erase_of_mem hx] at this
  have hp:0<c.length:=List.length_pos_of_mem hx
  simp only[List.length_cons]
  lia
section
variable {X:Cx}
theorem vy {K:Type} [DecidableEq K] (k:Dk K) (Y:EKind X.prog X.w K) (hr:Y.knd.room X.A.in1.in1.in1) (hc:X.calm=true) (hk:∀{aa:List (Addr×Obj)}{σ:St}{H:Hp}{s:Shared}{b:Addr}{x:K},Inv X aa σ H s->k.rep X.K H (.ref b) x->Y.knd.is s.heap x b)
  (href:∀{K':W.Frag}{H:Hp}{v:V}{x:K},k.rep K' H v x->∃b,v=.ref b) :
  cm X (.type "set") (fun xs H Q=>∃(y:V) (keys:List K),xs=[y]∧(tM k).rep X.K H y keys∧(∀js:List K,js.Nodup->(∀x∈js,x∈keys)->js.length<70)∧∀(p:Addr) (bs:List Addr) (ks:List K),H p=none->Paired (fun b x=>k.rep X.K H (.ref b) x) bs ks->ks.Nodup->(∀x,x∈ks↔x∈keys)->Q (.ref p) (upd H p (gB X.w p bs))):=by
 intro aa s σ H xs us Q I r h
 obtain⟨y,keys,rfl,⟨p,as,e,hp,hd⟩,hl,q⟩:=h
 subst e
 obtain⟨u,rfl,ru⟩:=dB r
 cases ru
 obtain⟨its,rv,pl,hz⟩:=I.list hp
 have kd:Paired (fun v x=>∃b,v=Value.ref b∧k.rep X.K H (.ref b) x) its keys:=kT (F:=az) (G:=k.rep X.K H) (fun x u kx h1 h2=>by
  obtain⟨b,rfl⟩:=href h2
  cases h1
  exact⟨b,rfl,h2⟩) rv hd
 have kd':Paired (xw (Y.only fun x b=>k.rep X.K H (.ref b) x) s.heap) its.toArray.toList keys:=aJ (fun _ _ ⟨b,e,z⟩=>⟨b,e,hk I z,z⟩) kd
 refine rm (X:=Y.only fun x b=>k.rep X.K H (.ref b) x) (I.ok.hd hc) hr pl.isList kd' hl fun h' tk k1 F=>?_
 obtain⟨o,es,ep,t,ks,S,m,ld⟩:=F
 have len:es.size=ks.length:=by rw[←Array.length_toList];exact S.el.length
 have le70:ks.length<70:=hl ks S.nd fun x hx=>(m x).mp hx
 have each:∀{l:List Sa.Elem}{js:List K},Paired (El (Y.only fun x b=>k.rep X.K H (.ref b) x) h') l js->∃bs:List Addr,l.map (·.2)=bs.map Value.ref∧Paired (fun b x=>k.rep X.K H (.ref b) x) bs js:=by
  intro l js pr
  induction pr with
  | nil=>exact⟨[],rfl,.nil⟩
  | @cons e x l js h1 _ ih=>
   obtain⟨b,e1,e2,_⟩:=h1
   obtain⟨bs,i1,i2⟩:=ih
   exact⟨b::bs,by rw[List.map_cons,List.map_cons,i1,e1],.cons e2.2 i2⟩
 obtain⟨bs,b1,b2⟩:=each S.el
 refine⟨.ref s.heap.objs.size,_,I.laid (o:=gB X.w s.heap.objs.size bs) k1 (Nat.le_refl _) ?_,rfl,q _ bs ks (I.hok.fresh (Nat.le_refl _)) b2 S.nd m⟩
 exact zB ⟨es,ep,t,⟨⟨o,S.ob,S.ex,S.dt⟩,S.full.tab.rise,S.full.size,SetAt.fits (s:={ s with heap:=h' }) S,S.pl,ld⟩,by lia,b1⟩
theorem vz {K:Type} [DecidableEq K] (k:Dk K) (Y:EKind X.prog X.w K) (hr:Y.knd.room X.A.in1.in1.in1) (hc:X.calm=true) (hk:∀{aa:List (Addr×Obj)}{σ:St}{H:Hp}{s:Shared}{b:Addr}{x:K},Inv X aa σ H s->k.rep X.K H (.ref b) x->Y.knd.is s.heap x b)
  (href:∀{K':W.Frag}{H:Hp}{v:V}{x:K},k.rep K' H v x->∃b,v=.ref b) :
  cm X (.type "set") (fun xs H Q=>∃(y:V) (keys:List K),xs=[y]∧(tM k).rep X.K H y keys∧keys.length<70∧∀(p:Addr) (bs:List Addr) (ks:List K),H p=none->Paired (fun b x=>k.rep X.K H (.ref b) x) bs ks->ks.Nodup->(∀x,x∈ks↔x∈keys)->Q (.ref p) (upd H p (gB X.w p bs))):=by
 intro aa s σ H xs us Q I r h
 obtain⟨y,keys,e,d,hl,q⟩:=h
 exact vy k Y hr hc hk href aa s σ H xs us Q I r ⟨y,keys,e,d,fun js nd hs=>Nat.lt_of_le_of_lt (cO js keys nd hs) hl,q⟩
theorem A0 {aa:List (Addr×Obj)}{σ:St}{H:Hp}{s:Shared}{a:Addr}{bs:List Addr}(I:Inv X aa σ H s) (ha:H a=some (gB X.w a bs)):∃es ep t,Wk X.w s.heap a es ep t∧es.size<70∧es.toList.map (·.2)=bs.map Value.ref:=(show aS X.prog X.w H s.heap a (gB X.w a bs) from I.hok a _ ha).1
theorem vA:cm X (.builtin "len") (fun xs H Q=>∃p bs,xs=[V.ref p]∧H p=some (gB X.w p bs)∧Q (.int bs.length) H):=by
 intro aa s σ H xs us Q I r h
 obtain⟨p,bs,rfl,hp,q⟩:=h
 obtain⟨u,rfl,ru⟩:=dB r
 cases ru
 obtain⟨es,ep,t,W,lt,eq⟩:=A0 I hp
 obtain⟨o,e1,e2,e3⟩:=id W.ob
 have len:es.size=bs.length:=by have:=congrArg List.length eq;simpa using this
 exact call_len_set e1 e2 e3 W.fits (by lia) ⟨.int bs.length,H,I.tok _,⟨_,by rw[len]⟩,q⟩
end
end L2
namespace Bk
open Mx
abbrev Room:=List (Int×Int)
abbrev aq:=List (List Int)
def lt:List Int->List Int->Prop
 | [],[]=>False
 | [],_::_=>True
 | _::_,[]=>False
 | a::as,b::bs=>a<b∨(a=b∧lt as bs)
def dQ (os:aq):Prop:=os.Pairwise lt
theorem kW {α β:Type}{f g:α->List β}:∀{l:List α},(∀a∈l,f a=g a)->l.flatMap f=l.flatMap g
 | [],_=>rfl
 | a::l,h=>by rw[List.flatMap_cons,List.flatMap_cons,h a List.mem_cons_self,kW fun b hb=>h b (List.mem_cons_of_mem _ hb)]
def fJ (t:Int):List Int->Option (List Int)
 | x::r=>if x=t then some r else none
 | []=>none
def rests (t:Int) (os:aq):aq:=os.filterMap (fJ t)
theorem aV {t:Int}{os:aq}{r:List Int}:r∈rests t os↔t::r∈os:=by
 simp only[rests,List.mem_filterMap]
 constructor
 ·rintro⟨o,ho,h⟩
  cases o with
  | nil=>cases h
  | cons x r'=>
   simp only[fJ] at h
   split at h
   ·rename_i e
    cases h
    subst e
    exact ho
   ·cases h
 ·intro h
  exact⟨_,h,by simp[fJ]⟩
def heads (os:aq):List Int:=(aY 8).filter fun t=>!(rests t os).isEmpty
theorem bJ {t:Int}{os:aq}:t∈heads os↔(0≤t∧t<8)∧∃r,t::r∈os:=by
 rw[heads,List.mem_filter,cL]
 constructor
 ·rintro⟨h1,h2⟩
  refine⟨by simpa using h1,?_⟩
  cases e:rests t os with
  | nil=>rw[e] at h2;cases h2
  | cons r rs=>exact⟨r,aV.mp (by rw[e];exact List.mem_cons_self)⟩
 ·rintro⟨h1,r,h2⟩
  refine⟨by simpa using h1,?_⟩
  have:=aV.mpr h2
  cases e:rests t os with
  | nil=>rw[e] at this;cases this
  | cons r rs=>rfl
theorem cK (os:aq):(heads os).Pairwise (· < ·):=by
 unfold heads
 refine List.Pairwise.filter _ ?_
 unfold aY
 rw[List.pairwise_map]
 exact(List.pairwise_lt_range (n:=8)).imp (fun h=>by lia)
def gC (os os':aq):Prop:=∀o,o∈os↔o∈os'
theorem gC.rests {os os':aq}(h:gC os os') (t:Int):gC (rests t os) (rests t os'):=fun o=>by rw[aV,aV];exact h _
theorem mR {α:Type}{p q:α->Bool}:∀{l:List α},(∀a∈l,p a=q a)->l.filter p=l.filter q
 | [],_=>rfl
 | a::l,h=>by
  have ih:=mR (l:=l) fun b hb=>h b (List.mem_cons_of_mem _ hb)
  rw[List.filter_cons,List.filter_cons,h a List.mem_cons_self,ih]
theorem gC.heads {os os':aq}(h:gC os os'):heads os=heads os':=by
 unfold Bk.heads
 refine mR fun t _=>?_
 have hr:=h.rests t
 cases e:Bk.rests t os with
 | nil=>
  cases e':Bk.rests t os' with
  | nil=>rfl
  | cons r rs=>
   have:=(hr r).mpr (by rw[e'];exact List.mem_cons_self)
   rw[e] at this
   cases this
 | cons r rs=>
  cases e':Bk.rests t os' with
  | nil=>
   have:=(hr r).mp (by rw[e];exact List.mem_cons_self)
   rw[e'] at this
   cases this
  | cons r rs=>rfl
def keep (rs:List Room) (r:Room):Nat×List Room:=if r∈rs then (rs.idxOf r+2,rs) else (rs.length+2,rs++[r])
def aP (f:aq->List Room->Nat×List Room) (os:aq):List Int->List Room->Room×List Room
 | [],rs=>([],rs)
 | t::ts,rs=>((t,((f (rests t os) rs).1:Int))::(aP f os ts (f (rests t os) rs).2).1,(aP f os ts (f (rests t os) rs).2).2)
def lay:Nat->aq->List Room->Nat×List Room
 | 0,_,rs=>(1,rs)
 | n+1,os,rs=>keep (aP (lay n) os (heads os) rs).2 (aP (lay n) os (heads os) rs).1
theorem mS {f:aq->List Room->Nat×List Room}{os os':aq}(hf:∀o o' rs,gC o o'->f o rs=f o' rs) (h:gC os os'):∀ts rs,aP f os ts rs=aP f os' ts rs
 | [],_=>rfl
 | t::ts,rs=>by
  have e:=hf _ _ rs (h.rests t)
  unfold aP
  rw[e,mS hf h ts]
theorem pH:∀(n:Nat) {os os':aq}(rs:List Room),gC os os'->lay n os rs=lay n os' rs
 | 0,_,_,_,_=>rfl
 | n+1,os,os',rs,h=>by
  unfold lay
  rw[h.heads,mS (fun o o' rs h=>pH n rs h) h]
theorem gj (rs:List Room) (r:Room):∃i,(keep rs r).1=i+2∧(keep rs r).2[i]?=some r∧i<(keep rs r).2.length∧rs <+: (keep rs r).2:=by
 unfold keep
 split
 ·rename_i h
  refine⟨rs.idxOf r,rfl,?_,List.idxOf_lt_length_of_mem h,List.prefix_rfl⟩
  rw[List.getElem?_eq_getElem (List.idxOf_lt_length_of_mem h),List.getElem_idxOf]
 ·exact⟨rs.length,rfl,by simp,by simp,List.prefix_append _ _⟩
theorem cP (rs:List Room) (r:Room):(keep rs r).2=rs∨(r∉rs∧(keep rs r).2=rs++[r]∧(keep rs r).1=rs.length+2):=by
 unfold keep
 split
 ·exact .inl rfl
 ·rename_i h
  exact .inr ⟨h,rfl,rfl⟩
def e8 (rows:List aq) (r:Room):List aq:=rows++[r.flatMap fun d=>(rows.getD d.2.toNat []).map (d.1::·)]
def eF (rs:List Room):List aq:=rs.foldl e8 [[],[[]]]
def sem (rs:List Room) (k:Nat):aq:=(eF rs).getD k []
theorem mT:∀(rs:List Room) (a:List aq),(rs.foldl e8 a).length=a.length+rs.length
 | [],_=>rfl
 | r::rs,a=>by
  rw[List.foldl_cons,mT rs]
  simp[e8]
  lia
theorem gE (rs:List Room):(eF rs).length=rs.length+2:=by
 rw[eF,mT]
 simp
 lia
theorem mU:∀(rs:List Room) (a:List aq),a <+: rs.foldl e8 a
 | [],_=>List.prefix_rfl
 | r::rs,a=>by
  rw[List.foldl_cons]
  exact(List.prefix_append _ _).trans (mU rs _)
theorem pI {α:Type}{a b:List α}{k:Nat}{d:α}(h:a <+: b) (hk:k<a.length):b.getD k d=a.getD k d:=by
 obtain⟨c,rfl⟩:=h
 rw[List.getD_eq_getElem?_getD,List.getD_eq_getElem?_getD,List.getElem?_append_left hk]
theorem jA {rs rs':List Room}{k:Nat}(h:rs <+: rs') (hk:k<rs.length+2):sem rs' k=sem rs k:=by
 obtain⟨m,rfl⟩:=h
 unfold sem eF
 rw[List.foldl_append]
 exact pI (mU m _) (by have:=gE rs;unfold eF at this;lia)
theorem pJ {rs:List Room}{i:Nat}{r:Room}(h:rs[i]?=some r) (hd:∀d∈r,d.2.toNat<i+2):sem rs (i+2)=r.flatMap fun d=>(sem rs d.2.toNat).map (d.1::·):=by
 obtain⟨hi,e⟩:=List.getElem?_eq_some_iff.mp h
 have e1:rs=rs.take i++(r::rs.drop (i+1)):=by
  rw[←e,List.getElem_cons_drop,List.take_append_drop]
 have p1:rs.take i <+: rs:=List.take_prefix _ _
 have p2:rs.take i++[r] <+: rs:=⟨rs.drop (i+1),by rw[List.append_assoc];exact e1.symm⟩
 have l1:(rs.take i).length=i:=by rw[List.length_take];lia
 rw[jA p2 (by rw[List.length_append,l1];simp)]
 have e2:eF (rs.take i++[r])=e8 (eF (rs.take i)) r:=by
  unfold eF
  rw[List.foldl_append]
  rfl
 unfold sem
 rw[e2]
 unfold e8
 rw[List.getD_eq_getElem?_getD,List.getElem?_append_right (by rw[gE,l1];exact Nat.le_refl _),gE,l1]
 simp only[Nat.sub_self,List.getElem?_cons_zero,Option.getD_some]
 refine kW fun d hd'=>?_
 have:=jA p1 (k:=d.2.toNat) (by rw[l1];exact hd d hd')
 unfold sem at this
 rw[←this]
theorem gU (rs:List Room):sem rs 1=[[]]:=by rw[jA (rs:=[]) (List.nil_prefix) (by simp)];rfl
structure Room.Ok (i:Nat) (r:Room):Prop where
 ne:r≠[]
 ahead:∀d∈r,1≤d.2∧d.2<(i:Int)+2
 rise:(r.map (·.1)).Pairwise (· < ·)
def WF (rs:List Room):Prop:=∀i r,rs[i]?=some r->Room.Ok i r
theorem WF.snoc {rs:List Room}{r:Room}(h:WF rs) (hr:Room.Ok rs.length r):WF (rs++[r]):=fun i r' e=>by
 by_cases hi:i<rs.length
 ·rw[List.getElem?_append_left hi] at e
  exact h i r' e
 ·have hl:i<(rs++[r]).length:=(List.getElem?_eq_some_iff.mp e).1
  rw[List.length_append] at hl
  have:i=rs.length:=by simp at hl;lia
  subst this
  rw[List.getElem?_append_right (Nat.le_refl _)] at e
  simp at e
  subst e
  exact hr
structure Tells (rs:List Room) (k:Nat) (os:aq):Prop where
 lo:1≤k
 hi:k<rs.length+2
 rise:dQ (sem rs k)
 mem:gC (sem rs k) os
theorem Tells.pre {rs rs':List Room}{k:Nat}{os:aq}(t:Tells rs k os) (h:rs <+: rs'):Tells rs' k os:=by
 have e:=jA h t.hi
 have hl:=h.length_le
 exact⟨t.lo,by have:=t.hi;lia,by rw[e];exact t.rise,by rw[e];exact t.mem⟩
structure Doors (rs:List Room) (os:aq) (ts:List Int) (ds:Room):Prop where
 things:ds.map (·.1)=ts
 tells:∀d∈ds,1≤d.2∧Tells rs d.2.toNat (rests d.1 os)
def pK (f:aq->List Room->Nat×List Room) (n:Nat):Prop:=∀(os:aq) (rs:List Room),(∀o∈os,o.length=n∧∀x∈o,0≤x∧x<8)->os≠[]->WF rs->WF (f os rs).2∧rs <+: (f os rs).2∧Tells (f os rs).2 (f os rs).1 os
theorem dv {f:aq->List Room->Nat×List Room}{n:Nat}{os:aq}(hf:pK f n) (hos:∀o∈os,o.length=n+1∧∀x∈o,0≤x∧x<8) :
  ∀(ts:List Int) (rs:List Room),(∀t∈ts,t∈heads os)->WF rs->WF (aP f os ts rs).2∧rs <+: (aP f os ts rs).2∧Doors (aP f os ts rs).2 os ts (aP f os ts rs).1
 | [],rs,_,h=>⟨h,List.prefix_rfl,rfl,fun d hd=>by cases hd⟩
 | t::ts,rs,ht,h=>by
  obtain⟨_,r,hr⟩:=bJ.mp (ht t List.mem_cons_self)
  obtain⟨w1,p1,t1⟩:=hf (rests t os) rs (fun o ho=>by
   have:=hos _ (aV.mp ho)
   exact⟨by simpa using this.1,fun x hx=>this.2 x (List.mem_cons_of_mem _ hx)⟩) (fun e=>by
   have:=aV.mpr hr
   rw[e] at this
   cases this) h
  obtain⟨w2,p2,d2⟩:=dv hf hos ts (f (rests t os) rs).2 (fun t' h'=>ht t' (List.mem_cons_of_mem _ h')) w1
  unfold aP
  refine⟨w2,p1.trans p2,by simp[d2.things],fun d hd=>?_⟩
  rcases List.mem_cons.mp hd with rfl|hd
  ·refine⟨by have:=t1.lo;simp;lia,?_⟩
   simp only[Int.toNat_natCast]
   exact t1.pre p2
  ·exact d2.tells d hd
theorem vB {t:Int}{os:aq}(h:dQ os):dQ (os.map (t::·)):=by
 unfold dQ at h ⊢
 rw[List.pairwise_map]
 exact h.imp fun h=>.inr ⟨rfl,h⟩
theorem mV {g:Int×Int->aq}:∀{r:Room},(r.map (·.1)).Pairwise (· < ·)->(∀d∈r,dQ (g d))->dQ (r.flatMap fun d=>(g d).map (d.1::·))
 | [],_,_=>List.Pairwise.nil
 | d::r,h,hg=>by
  rw[List.map_cons,List.pairwise_cons] at h
  rw[List.flatMap_cons]
  unfold dQ
  rw[List.pairwise_append]
  refine⟨vB (hg d List.mem_cons_self),mV h.2 fun d' hd'=>hg d' (List.mem_cons_of_mem _ hd'),?_⟩
  intro a ha b hb
  obtain⟨a',_,rfl⟩:=List.mem_map.mp ha
  obtain⟨d',hd',hb⟩:=List.mem_flatMap.mp hb
  obtain⟨b',_,rfl⟩:=List.mem_map.mp hb
  exact .inl (h.1 d'.1 (List.mem_map.mpr ⟨d',hd',rfl⟩))
theorem cI:∀n,pK (lay n) n
 | 0=>fun os rs hos hne h=>by
  refine⟨h,List.prefix_rfl,Nat.le_refl _,by show 1<rs.length+2;lia,?_,?_⟩
  ·show dQ (sem rs 1)
   rw[gU]
   exact List.pairwise_singleton _ _
  ·show gC (sem rs 1) os
   rw[gU]
   intro o
   constructor
   ·intro ho
    rw[List.mem_singleton.mp ho]
    cases os with
    | nil=>exact absurd rfl hne
    | cons a os=>
     have:=(hos a List.mem_cons_self).1
     rw[List.length_eq_zero_iff.mp this]
     exact List.mem_cons_self
   ·intro ho
    rw[List.length_eq_zero_iff.mp (hos o ho).1]
    exact List.mem_singleton_self _
 | n+1=>fun os rs hos hne h=>by
  obtain⟨w1,p1,d1⟩:=dv (cI n) hos (heads os) rs (fun t ht=>ht) h
  unfold lay
  generalize (aP (lay n) os (heads os) rs).2=rs1 at *
  generalize (aP (lay n) os (heads os) rs).1=ds at *
  have rise:(ds.map (·.1)).Pairwise (· < ·):=by rw[d1.things];exact cK os
  have dne:ds≠[]:=by
   intro e
   cases os with
   | nil=>exact absurd rfl hne
   | cons a os=>
    have ha:=hos a List.mem_cons_self
    cases a with
    | nil=>cases ha.1
    | cons x r=>
     have hx:x∈heads ((x::r)::os):=bJ.mpr ⟨ha.2 x List.mem_cons_self,r,List.mem_cons_self⟩
     rw[←d1.things,e] at hx
     cases hx
  obtain⟨i,k1,k2,k3,k4⟩:=gj rs1 ds
  have w2:WF (keep rs1 ds).2:=by
   rcases cP rs1 ds with e|⟨_,e,_⟩
   ·rw[e];exact w1
   ·rw[e]
    refine w1.snoc ⟨dne,fun d hd=>?_,rise⟩
    have:=d1.tells d hd
    have h2:=this.2.hi
    exact⟨this.1,by lia⟩
  refine⟨w2,p1.trans k4,?_⟩
  have hsem:sem (keep rs1 ds).2 (i+2)=ds.flatMap fun d=>(sem (keep rs1 ds).2 d.2.toNat).map (d.1::·):=
   pJ k2 fun d hd=>by
    have:=(w2 i ds k2).ahead d hd
    lia
  rw[k1]
  refine⟨by lia,by lia,?_,?_⟩
  ·rw[hsem]
   exact mV rise fun d hd=>((d1.tells d hd).2.pre k4).rise
  ·rw[hsem]
   intro o
   rw[List.mem_flatMap]
   constructor
   ·rintro⟨d,hd,ho⟩
    obtain⟨o',ho',rfl⟩:=List.mem_map.mp ho
    exact aV.mp ((((d1.tells d hd).2.pre k4).mem o').mp ho')
   ·intro ho
    have h1:=hos o ho
    cases o with
    | nil=>cases h1.1
    | cons x r=>
     have hx:x∈heads os:=bJ.mpr ⟨h1.2 x List.mem_cons_self,r,ho⟩
     rw[←d1.things] at hx
     obtain⟨d,hd,rfl⟩:=List.mem_map.mp hx
     exact⟨d,hd,List.mem_map.mpr ⟨r,(((d1.tells d hd).2.pre k4).mem r).mpr (aV.mpr ho),rfl⟩⟩
end Bk
namespace Bk
open Mx
def Ends (rs:List Room) (p:Nat×List Room):Prop:=(p.2=rs∧p.1<rs.length+2)∨(p.1=p.2.length+1∧rs.length<p.2.length)
def DP (rs:List Room) (p:Room×List Room):Prop:=p.2=rs∨(rs.length<p.2.length∧∃d∈p.1,d.2=((p.2.length+1:Nat):Int))
theorem i7 {f:aq->List Room->Nat×List Room}{n:Nat}{os:aq}(hf:pK f n) (he:∀(os:aq) (rs:List Room),(∀o∈os,o.length=n∧∀x∈o,0≤x∧x<8)->os≠[]->WF rs->Ends rs (f os rs)) (hos:∀o∈os,o.length=n+1∧∀x∈o,0≤x∧x<8) :
  ∀(ts:List Int) (rs:List Room),(∀t∈ts,t∈heads os)->WF rs->DP rs (aP f os ts rs)
 | [],rs,_,_=>.inl rfl
 | t::ts,rs,ht,h=>by
  obtain⟨_,r,hr⟩:=bJ.mp (ht t List.mem_cons_self)
  have ho:∀o∈rests t os,o.length=n∧∀x∈o,0≤x∧x<8:=fun o ho=>by
   have:=hos _ (aV.mp ho)
   exact⟨by simpa using this.1,fun x hx=>this.2 x (List.mem_cons_of_mem _ hx)⟩
  have hne:rests t os≠[]:=fun e=>by
   have:=aV.mpr hr
   rw[e] at this
   cases this
  obtain⟨w1,p1,t1⟩:=hf (rests t os) rs ho hne h
  have e1:=he (rests t os) rs ho hne h
  have e2:=i7 hf he hos ts (f (rests t os) rs).2 (fun t' h'=>ht t' (List.mem_cons_of_mem _ h')) w1
  unfold aP
  rcases e2 with e2|⟨l2,d,hd,e2⟩
  ·rcases e1 with⟨e1,_⟩|⟨e1,l1⟩
   ·exact .inl (e2.trans e1)
   ·refine .inr ⟨by rw[e2];exact l1,_,List.mem_cons_self,?_⟩
    show((f (rests t os) rs).1:Int)=_
    rw[e2,e1]
  ·exact .inr ⟨Nat.lt_of_le_of_lt p1.length_le l2,d,List.mem_cons_of_mem _ hd,e2⟩
theorem j4:∀(n:Nat) (os:aq) (rs:List Room),(∀o∈os,o.length=n∧∀x∈o,0≤x∧x<8)->os≠[]->WF rs->Ends rs (lay n os rs)
 | 0,os,rs,_,_,_=>.inl ⟨rfl,by show 1<rs.length+2;lia⟩
 | n+1,os,rs,hos,hne,h=>by
  have e:=i7 (cI n) (j4 n) hos (heads os) rs (fun t ht=>ht) h
  obtain⟨w1,p1,d1⟩:=dv (cI n) hos (heads os) rs (fun t ht=>ht) h
  have lp:=p1.length_le
  unfold lay
  generalize (aP (lay n) os (heads os) rs)=p at *
  obtain⟨ds,rs1⟩:=p
  dsimp only at *
  rcases cP rs1 ds with k|⟨_,k,k'⟩
  ·obtain⟨i,k1,k2,k3,_⟩:=gj rs1 ds
   rw[k] at k2 k3
   rcases e with e|⟨l,d,hd,e⟩
   ·have e:rs1=rs:=e
    exact .inl ⟨by rw[k];exact e,by rw[k1,←e];lia⟩
   ·have:=(w1 i ds k2).ahead d hd
    have e:d.2=((rs1.length+1:Nat):Int):=e
    lia
  ·refine .inr ⟨by rw[k,k'];simp,by rw[k];simp;lia⟩
theorem tT {rs:List Room}{r:Room}(h:rs.Nodup):(keep rs r).2.Nodup:=by
 rcases cP rs r with e|⟨hn,e,_⟩
 ·rw[e];exact h
 ·rw[e,List.nodup_append]
  refine⟨h,by simp,?_⟩
  intro a ha b hb
  rw[List.mem_singleton.mp hb]
  rintro rfl
  exact hn ha
theorem kX {f:aq->List Room->Nat×List Room}{os:aq}(hf:∀os rs,rs.Nodup->(f os rs).2.Nodup):∀ts rs,rs.Nodup->(aP f os ts rs).2.Nodup
 | [],_,h=>h
 | t::ts,rs,h=>by
  unfold aP
  exact kX hf ts _ (hf _ _ h)
theorem mW:∀(n:Nat) (os:aq) (rs:List Room),rs.Nodup->(lay n os rs).2.Nodup
 | 0,_,_,h=>h
 | n+1,os,rs,h=>by
  unfold lay
  exact tT (kX (mW n) _ _ h)
def bd (rs:List Room) (k:Int):Room:=(rs[(k-2).toNat]?).getD []
def walk:Nat->List Room->Int->List Int->List Int
 | 0,_,_,w=>w
 | n+1,rs,k,w=>if k∈w then w else (bd rs k).foldl (fun w d=>walk n rs d.2 w) w++[k]
theorem jB {n:Nat}{rs:List Room}{k:Int}{w:List Int}(h:k∈w):walk n rs k w=w:=by
 cases n with
 | zero=>rfl
 | succ n=>unfold walk;rw[if_pos h]
theorem mX (n:Nat):aY (n+1)=aY n++[(n:Int)]:=by unfold aY;rw[List.range_succ];simp
def rZ (f:aq->List Room->Nat×List Room) (n:Nat):Prop:=∀(os:aq) (rs all:List Room),(∀o∈os,o.length=n∧∀x∈o,0≤x∧x<8)->os≠[]->WF rs->(f os rs).2 <+: all->∀m,n≤m->
 walk m all ((f os rs).1:Int) (aY (rs.length+2))=aY ((f os rs).2.length+2)
theorem yl {f:aq->List Room->Nat×List Room}{n m:Nat}{os:aq}{all:List Room}(hf:pK f n) (hw:rZ f n) (hm:n≤m) (hos:∀o∈os,o.length=n+1∧∀x∈o,0≤x∧x<8) :
  ∀(ts:List Int) (rs:List Room),(∀t∈ts,t∈heads os)->WF rs->(aP f os ts rs).2 <+: all->
   (aP f os ts rs).1.foldl (fun w d=>walk m all d.2 w) (aY (rs.length+2))=aY ((aP f os ts rs).2.length+2)
 | [],rs,_,_,_=>rfl
 | t::ts,rs,ht,h,pa=>by
  obtain⟨_,r,hr⟩:=bJ.mp (ht t List.mem_cons_self)
  have ho:∀o∈rests t os,o.length=n∧∀x∈o,0≤x∧x<8:=fun o ho=>by
   have:=hos _ (aV.mp ho)
   exact⟨by simpa using this.1,fun x hx=>this.2 x (List.mem_cons_of_mem _ hx)⟩
  have hne:rests t os≠[]:=fun e=>by
   have:=aV.mpr hr
   rw[e] at this
   cases this
  obtain⟨w1,p1,t1⟩:=hf (rests t os) rs ho hne h
  obtain⟨_,p2,_⟩:=dv hf hos ts (f (rests t os) rs).2 (fun t' h'=>ht t' (List.mem_cons_of_mem _ h')) w1
  unfold aP at pa ⊢
  rw[List.foldl_cons]
  have e:=hw (rests t os) rs all ho hne h (p2.trans pa) m hm
  dsimp only at e ⊢
  rw[e]
  exact yl hf hw hm hos ts _ (fun t' h'=>ht t' (List.mem_cons_of_mem _ h')) w1 pa
theorem pL:∀n,rZ (lay n) n
 | 0=>fun os rs all _ _ _ _ m _=>by
  show walk m all 1 (aY (rs.length+2))=aY (rs.length+2)
  exact jB (cL.mpr ⟨by lia,by lia⟩)
 | n+1=>fun os rs all hos hne h pa m hm=>by
  have he:=j4 (n+1) os rs hos hne h
  rcases he with⟨e1,e2⟩|⟨e1,e2⟩
  ·rw[e1]
   exact jB (cL.mpr ⟨by lia,by lia⟩)
  ·obtain⟨m,rfl⟩:∃m',m=m'+1:=⟨m-1,by lia⟩
   obtain⟨w1,p1,d1⟩:=dv (cI n) hos (heads os) rs (fun t ht=>ht) h
   have hin:¬((lay (n+1) os rs).1:Int)∈aY (rs.length+2):=by
    rw[cL]
    lia
   unfold walk
   rw[if_neg hin]
   have hD:=yl (m:=m) (all:=all) (cI n) (pL n) (by lia) hos (heads os) rs (fun t ht=>ht) h
   have lp:=p1.length_le
   have eD:=i7 (cI n) (j4 n) hos (heads os) rs (fun t ht=>ht) h
   have hk:lay (n+1) os rs=keep (aP (lay n) os (heads os) rs).2 (aP (lay n) os (heads os) rs).1:=rfl
   rw[hk] at e1 e2 pa ⊢
   generalize (aP (lay n) os (heads os) rs)=p at *
   obtain⟨ds,rs1⟩:=p
   dsimp only at *
   obtain⟨i,k1,k2,k3,k4⟩:=gj rs1 ds
   have hr:bd all ((keep rs1 ds).1:Int)=ds:=by
    unfold bd
    rw[k1,show(((i+2:Nat):Int)-2).toNat=i by lia]
    obtain⟨c,rfl⟩:=pa
    rw[List.getElem?_append_left k3,k2]
    rfl
   rw[hr,hD (k4.trans pa)]
   rcases cP rs1 ds with k|⟨_,k,k'⟩
   ·rw[k] at e1 e2 k2 k3
    rw[k1] at e1
    rcases eD with eD|⟨_,d,hd,eD⟩
    ·have eD:rs1=rs:=eD
     rw[eD] at e2
     lia
    ·have:=(w1 i ds k2).ahead d hd
     have eD:d.2=((rs1.length+1:Nat):Int):=eD
     lia
   ·rw[k,k',List.length_append]
    show aY (rs1.length+2)++[((rs1.length+2:Nat):Int)]=aY (rs1.length+1+2)
    rw[show rs1.length+1+2=(rs1.length+2)+1 by lia,mX (rs1.length+2)]
end Bk
namespace Bk
open Mx
def bN (ms:List Nat) (d:Int×Int):Nat:=2 ^ d.1.toNat ||| ms.getD d.2.toNat 0
def gm (ms:List Nat) (r:Room):List Nat:=ms++[bN ms (r.headD (0,0))]
def aU (rs:List Room):List Nat:=rs.foldl gm [0,0]
def msk (rs:List Room) (k:Nat):Nat:=(aU rs).getD k 0
theorem mY:∀(rs:List Room) (a:List Nat),(rs.foldl gm a).length=a.length+rs.length
 | [],_=>rfl
 | r::rs,a=>by
  rw[List.foldl_cons,mY rs]
  simp[gm]
  lia
theorem cF (rs:List Room):(aU rs).length=rs.length+2:=by
 rw[aU,mY]
 simp
 lia
theorem mZ:∀(rs:List Room) (a:List Nat),a <+: rs.foldl gm a
 | [],_=>List.prefix_rfl
 | r::rs,a=>by
  rw[List.foldl_cons]
  exact(List.prefix_append _ _).trans (mZ rs _)
theorem dE {rs rs':List Room}{k:Nat}(h:rs <+: rs') (hk:k<rs.length+2):msk rs' k=msk rs k:=by
 obtain⟨m,rfl⟩:=h
 unfold msk aU
 rw[List.foldl_append]
 exact pI (mZ m _) (by have:=cF rs;unfold aU at this;lia)
theorem pM {rs:List Room}{i:Nat}{d:Int×Int}{r:Room}(h:rs[i]?=some (d::r)) (hd:d.2.toNat<i+2):msk rs (i+2)=2 ^ d.1.toNat ||| msk rs d.2.toNat:=by
 obtain⟨hi,e⟩:=List.getElem?_eq_some_iff.mp h
 have e1:rs=rs.take i++((d::r)::rs.drop (i+1)):=by
  rw[←e,List.getElem_cons_drop,List.take_append_drop]
 have p1:rs.take i <+: rs:=List.take_prefix _ _
 have p2:rs.take i++[d::r] <+: rs:=⟨rs.drop (i+1),by rw[List.append_assoc];exact e1.symm⟩
 have l1:(rs.take i).length=i:=by rw[List.length_take];lia
 rw[dE p2 (by rw[List.length_append,l1];simp),dE p1 (k:=d.2.toNat) (by rw[l1];exact hd)]
 have e2:aU (rs.take i++[d::r])=gm (aU (rs.take i)) (d::r):=by
  unfold aU
  rw[List.foldl_append]
  rfl
 unfold msk
 rw[e2]
 unfold gm
 rw[List.getD_eq_getElem?_getD,List.getElem?_append_right (by rw[cF,l1];exact Nat.le_refl _),cF,l1]
 simp only[Nat.sub_self,List.getElem?_cons_zero,Option.getD_some]
 rfl
theorem se (rs:List Room):msk rs 1=0:=by rw[dE (rs:=[]) (List.nil_prefix) (by simp)];rfl
def MOk (rs:List Room):Prop:=∀i r,rs[i]?=some r->∀d∈r,0≤d.1∧d.1<8∧(msk rs d.2.toNat).testBit d.1.toNat=false∧2 ^ d.1.toNat ||| msk rs d.2.toNat=msk rs (i+2)
def Has (rs:List Room) (k:Nat) (S:Int->Prop):Prop:=∀i:Nat,(msk rs k).testBit i=true↔S (i:Int)
theorem Has.pre {rs rs':List Room}{k:Nat}{S:Int->Prop}(h:Has rs k S) (p:rs <+: rs') (hk:k<rs.length+2):Has rs' k S:=fun i=>by rw[dE p hk];exact h i
def fX (n:Nat) (S:Int->Prop) (os:aq):Prop:=∀o∈os,o.length=n∧(∀x∈o,0≤x∧x<8)∧o.Nodup∧∀x,x∈o↔S x
theorem fX.plain {n:Nat}{S:Int->Prop}{os:aq}(h:fX n S os):∀o∈os,o.length=n∧∀x∈o,0≤x∧x<8:=fun o ho=>⟨(h o ho).1,(h o ho).2.1⟩
theorem fX.rests {n:Nat}{S:Int->Prop}{os:aq}(h:fX (n+1) S os) (t:Int):fX n (fun x=>S x∧x≠t) (rests t os):=fun r hr=>by
 obtain⟨h1,h2,h3,h4⟩:=h _ (aV.mp hr)
 rw[List.nodup_cons] at h3
 refine⟨by simpa using h1,fun x hx=>h2 x (List.mem_cons_of_mem _ hx),h3.2,fun x=>?_⟩
 constructor
 ·intro hx
  refine⟨(h4 x).mp (List.mem_cons_of_mem _ hx),?_⟩
  rintro rfl
  exact h3.1 hx
 ·rintro⟨hx,hn⟩
  rcases List.mem_cons.mp ((h4 x).mpr hx) with e|e
  ·exact absurd e hn
  ·exact e
def ym (f:aq->List Room->Nat×List Room) (n:Nat):Prop:=∀(S:Int->Prop) (os:aq) (rs:List Room),fX n S os->os≠[]->WF rs->MOk rs->MOk (f os rs).2∧Has (f os rs).2 (f os rs).1 S
theorem m7 {f:aq->List Room->Nat×List Room}{n:Nat}{S:Int->Prop}{os:aq}(hf:pK f n) (hm:ym f n) (hos:fX (n+1) S os) :
  ∀(ts:List Int) (rs:List Room),(∀t∈ts,t∈heads os)->WF rs->MOk rs->MOk (aP f os ts rs).2∧∀d∈(aP f os ts rs).1,(0≤d.1∧d.1<8)∧S d.1∧Has (aP f os ts rs).2 d.2.toNat (fun x=>S x∧x≠d.1)
 | [],rs,_,_,m=>⟨m,fun d hd=>by cases hd⟩
 | t::ts,rs,ht,h,m=>by
  obtain⟨tb,r,hr⟩:=bJ.mp (ht t List.mem_cons_self)
  have hne:rests t os≠[]:=fun e=>by
   have:=aV.mpr hr
   rw[e] at this
   cases this
  obtain⟨w1,p1,t1⟩:=hf (rests t os) rs (hos.rests t).plain hne h
  obtain⟨m1,s1⟩:=hm _ (rests t os) rs (hos.rests t) hne h m
  have ht':∀t'∈ts,t'∈heads os:=fun t' h'=>ht t' (List.mem_cons_of_mem _ h')
  obtain⟨_,p2,_⟩:=dv hf hos.plain ts (f (rests t os) rs).2 ht' w1
  obtain⟨m2,s2⟩:=m7 hf hm hos ts (f (rests t os) rs).2 ht' w1 m1
  unfold aP
  refine⟨m2,fun d hd=>?_⟩
  rcases List.mem_cons.mp hd with rfl|hd
  ·refine⟨tb,((hos _ hr).2.2.2 t).mp List.mem_cons_self,?_⟩
   simp only[Int.toNat_natCast]
   exact s1.pre p2 t1.hi
  ·exact s2 d hd
theorem A1 {t:Int}{m:Nat}{S:Int->Prop}(h0:0≤t) (hS:S t) (h:∀i:Nat,m.testBit i=true↔(S (i:Int)∧(i:Int)≠t)):∀i:Nat,(2 ^ t.toNat ||| m).testBit i=true↔S (i:Int):=fun i=>by
 rw[Nat.testBit_or,Bool.or_eq_true,Nat.testBit_two_pow,decide_eq_true_iff,h i]
 constructor
 ·rintro(e|⟨e,_⟩)
  ·have:(i:Int)=t:=by lia
   rw[this];exact hS
  ·exact e
 ·intro e
  by_cases z:(i:Int)=t
  ·exact .inl (by lia)
  ·exact .inr ⟨e,z⟩
theorem zC {a b:Nat}{S:Int->Prop}(ha:∀i:Nat,a.testBit i=true↔S (i:Int)) (hb:∀i:Nat,b.testBit i=true↔S (i:Int)):a=b:=by
 refine Nat.eq_of_testBit_eq fun i=>?_
 rw[Bool.eq_iff_iff,ha,hb]
theorem pN:∀n,ym (lay n) n
 | 0=>fun S os rs hos hne _ m=>by
  refine⟨m,fun i=>?_⟩
  show(msk rs 1).testBit i=true↔_
  rw[se]
  simp only[Nat.zero_testBit]
  constructor
  ·intro z;cases z
  ·intro z
   cases os with
   | nil=>exact absurd rfl hne
   | cons o os=>
    obtain⟨h1,_,_,h4⟩:=hos o List.mem_cons_self
    have:=(h4 _).mpr z
    rw[List.length_eq_zero_iff.mp h1] at this
    cases this
 | n+1=>fun S os rs hos hne h m=>by
  obtain⟨w1,p1,d1⟩:=dv (cI n) hos.plain (heads os) rs (fun t ht=>ht) h
  obtain⟨m1,s1⟩:=m7 (cI n) (pN n) hos (heads os) rs (fun t ht=>ht) h m
  obtain⟨w2,_,t2⟩:=cI (n+1) os rs hos.plain hne h
  have hk:lay (n+1) os rs=keep (aP (lay n) os (heads os) rs).2 (aP (lay n) os (heads os) rs).1:=rfl
  rw[hk] at w2 t2 ⊢
  generalize (aP (lay n) os (heads os) rs)=p at *
  obtain⟨ds,rs1⟩:=p
  dsimp only at *
  obtain⟨i,k1,k2,k3,k4⟩:=gj rs1 ds
  have ok:=w2 i ds k2
  have each:∀d∈ds,∀j:Nat,(2 ^ d.1.toNat ||| msk rs1 d.2.toNat).testBit j=true↔S (j:Int):=fun d hd=>A1 (s1 d hd).1.1 (s1 d hd).2.1 (s1 d hd).2.2
  have pre:∀d∈ds,msk (keep rs1 ds).2 d.2.toNat=msk rs1 d.2.toNat:=fun d hd=>dE k4 (d1.tells d hd).2.hi
  have hi:Has (keep rs1 ds).2 (i+2) S:=by
   cases ds with
   | nil=>exact absurd rfl ok.ne
   | cons d r=>
    intro j
    rw[pM k2 (by have:=ok.ahead d List.mem_cons_self;lia),pre d List.mem_cons_self]
    exact each d List.mem_cons_self j
  refine⟨?_,by rw[k1];exact hi⟩
  rcases cP rs1 ds with k|⟨_,k,k'⟩
  ·rw[k];exact m1
  ·intro j r e d hd
   have ij:i=rs1.length:=by lia
   by_cases hj:j<rs1.length
   ·have e':=e
    rw[k,List.getElem?_append_left hj] at e'
    obtain⟨a1,a2,a3,a4⟩:=m1 j r e' d hd
    have b1:=(w1 j r e').ahead d hd
    rw[dE k4 (by lia),dE k4 (by lia)]
    exact⟨a1,a2,a3,a4⟩
   ·have hl:j<(keep rs1 ds).2.length:=(List.getElem?_eq_some_iff.mp e).1
    rw[k,List.length_append] at hl
    have ej:j=i:=by simp at hl;lia
    subst ej
    rw[k2] at e
    cases e
    refine⟨(s1 d hd).1.1,(s1 d hd).1.2,?_,?_⟩
    ·rw[pre d hd]
     cases z:(msk rs1 d.2.toNat).testBit d.1.toNat with
     | false=>rfl
     | true=>
      have:=(((s1 d hd).2.2) d.1.toNat).mp z
      exact absurd (by have:=(s1 d hd).1.1;lia) this.2
    ·rw[pre d hd]
     exact zC (each d hd) hi
theorem xB {many a:Nat}(h:∀i:Nat,a.testBit i=true↔((0:Int)≤(i:Int)∧(i:Int)<many)):a=2 ^ many-1:=by
 refine Nat.eq_of_testBit_eq fun i=>?_
 rw[Bool.eq_iff_iff,h,Nat.testBit_two_pow_sub_one,decide_eq_true_iff]
 lia
end Bk
namespace Bk
open Mx
theorem kY {rs:List Room}(wf:WF rs) {k:Nat}(h2:2≤k) (hk:k<rs.length+2):∃r,rs[k-2]?=some r∧Room.Ok (k-2) r∧sem rs k=r.flatMap fun d=>(sem rs d.2.toNat).map (d.1::·):=by
 have hi:k-2<rs.length:=by lia
 have e:=List.getElem?_eq_getElem hi
 have ok:=wf _ _ e
 have:=pJ e (fun d hd=>by have:=ok.ahead d hd;lia)
 rw[show k-2+2=k by lia] at this
 exact⟨_,e,ok,this⟩
theorem vC {rs:List Room}(wf:WF rs):∀(n k:Nat),k≤n->1≤k->k<rs.length+2->sem rs k≠[]
 | 0,k,h,h1,_=>by lia
 | n+1,k,h,h1,hk=>by
  by_cases c:k=1
  ·subst c
   rw[gU]
   exact fun h=>nomatch h
  obtain⟨r,e,ok,es⟩:=kY wf (by lia) hk
  obtain⟨d,hd⟩:=List.exists_mem_of_ne_nil r ok.ne
  have ah:=ok.ahead d hd
  have:=vC wf n d.2.toNat (by lia) (by lia) (by lia)
  obtain⟨o,ho⟩:=List.exists_mem_of_ne_nil _ this
  rw[es]
  intro hn
  have:d.1::o∈r.flatMap fun d=>(sem rs d.2.toNat).map (d.1::·):=List.mem_flatMap.mpr ⟨d,hd,List.mem_map.mpr ⟨o,ho,rfl⟩⟩
  rw[hn] at this
  cases this
def cX:Nat->List Room->Int->Prop
 | 0,_,k=>k=0∨k=1
 | n+1,rs,k=>k=0∨k=1∨(2≤k∧(k-2).toNat<rs.length∧∀d∈bd rs k,cX n rs d.2)
theorem cX.up {rs:List Room}:∀{n:Nat}{k:Int},cX n rs k->cX (n+1) rs k
 | 0,k,h=>by
  rcases h with h|h
  ·exact .inl h
  ·exact .inr (.inl h)
 | n+1,k,h=>by
  rcases h with h|h|⟨h1,h2,h3⟩
  ·exact .inl h
  ·exact .inr (.inl h)
  ·exact .inr (.inr ⟨h1,h2,fun d hd=>(h3 d hd).up⟩)
theorem cX.le {rs:List Room}{n m:Nat}{k:Int}(h:cX n rs k) (hm:n≤m):cX m rs k:=by
 induction hm with
 | refl=>exact h
 | step _ ih=>exact ih.up
theorem i8 {rs:List Room}{k:Int}(h:(k-2).toNat<rs.length):rs[(k-2).toNat]?=some (bd rs k):=by
 unfold bd
 rw[List.getElem?_eq_getElem h]
 rfl
theorem vD {rs:List Room}{k:Nat}{r:Room}(h:rs[k-2]?=some r) (h2:2≤k):bd rs (k:Int)=r:=by
 unfold bd
 rw[show((k:Int)-2).toNat=k-2 by lia,h]
 rfl
theorem lV {rs:List Room}(wf:WF rs):∀(n k:Nat),1≤k->k<rs.length+2->(∀o∈sem rs k,o.length=n)->cX n rs (k:Int)
 | 0,k,h1,hk,hl=>by
  by_cases c:k=1
  ·exact .inr (by rw[c];rfl)
  obtain⟨r,e,ok,es⟩:=kY wf (by lia) hk
  obtain⟨o,ho⟩:=List.exists_mem_of_ne_nil _ (vC wf k k (Nat.le_refl _) h1 hk)
  have l0:=hl o ho
  rw[es] at ho
  obtain⟨d,hd,hm⟩:=List.mem_flatMap.mp ho
  obtain⟨o',_,rfl⟩:=List.mem_map.mp hm
  exact absurd l0 (by simp)
 | n+1,k,h1,hk,hl=>by
  by_cases c:k=1
  ·exact .inr (.inl (by rw[c];rfl))
  obtain⟨r,e,ok,es⟩:=kY wf (by lia) hk
  refine .inr (.inr ⟨by lia,by lia,fun d hd=>?_⟩)
  rw[vD e (by lia)] at hd
  have ah:=ok.ahead d hd
  have:=lV wf n d.2.toNat (by lia) (by lia) fun o ho=>by
   have:=hl (d.1::o) (by rw[es];exact List.mem_flatMap.mpr ⟨d,hd,List.mem_map.mpr ⟨o,ho,rfl⟩⟩)
   simpa using this
  rw[show((d.2.toNat:Nat):Int)=d.2 by lia] at this
  exact this
end Bk
namespace L2
open PySem PySem.Spec PyProof.Rows
theorem kZ (a b:Nat):Builtin.bitAnd (a:Int) (b:Int)=((a &&& b:Nat):Int):=rfl
theorem vE (a b:Nat):Builtin.bitOr (a:Int) (b:Int)=((a ||| b:Nat):Int):=by
 rw[←PyProof.Rows.bitOr_eq]
 unfold Spec.bitOr Spec.bitAnd
 have h1:decide (0≤Spec.bitNot (a:Int))=false:=by unfold Spec.bitNot;exact decide_eq_false (by lia)
 have h2:decide (0≤Spec.bitNot (b:Int))=false:=by unfold Spec.bitNot;exact decide_eq_false (by lia)
 rw[h1,h2]
 have n1:∀x:Int,Spec.bitNot (Spec.bitNot x)=x:=fun x=>by unfold Spec.bitNot;lia
 simp only[n1,Int.toNat_natCast]
theorem tU {t m:Nat}(h:m.testBit t=false):2 ^ t &&& m=0:=by
 refine Nat.eq_of_testBit_eq fun i=>?_
 rw[Nat.testBit_and,Nat.testBit_two_pow,Nat.zero_testBit]
 by_cases e:t=i
 ·subst e;rw[h];simp
 ·simp[e]
theorem eQ {α:Type}{x:α}{xs:List α}:atI (x::xs) 0=some x:=br (j:=0) rfl
theorem lW {α:Type}{x y:α}{xs:List α}:atI (x::y::xs) 1=some y:=br (j:=1) rfl
theorem A2 {α:Type}{x y z:α}{xs:List α}:atI (x::y::z::xs) 2=some z:=br (j:=2) rfl
end L2
namespace Ord
open PySem L2 Mx
abbrev pO:Stmt:=top 24
abbrev j6:Stmt:=top 26
abbrev pP:Stmt:=top 23
abbrev jC:Stmt:=top 25
abbrev tV:Stmt:=top 22
abbrev pQ:Stmt:=top 27
abbrev pR:Stmt:=top 21
abbrev om:Stmt:=top 29
abbrev li:Stmt:=top 28
abbrev tW:Stmt:=top 20
structure TxB (K:W.Frag) (mg:Str->Option Value) (CO:Addr):Prop where
 t:Txt K mg CO
 no:∃t,mg "NO_ROOM"=some (.int 0 t)
 en:∃t,mg "END"=some (.int 1 t)
 low:∃t,mg "LOWEST"=some (.int 2 t)
 set:mg "set"=none
def dU (K:W.Frag) (H:Hp) (x:V) (d:Int×Int):Prop:=∃p,x=.ref p∧SqT K H p [.int d.1,.int d.2]
def bg (K:W.Frag) (H:Hp) (x:V) (r:Bk.Room):Prop:=∃a xs,x=.ref a∧SqT K H a xs∧Paired (dU K H) xs r
section
variable {P:Program}{w:World}{K:W.Frag}{mg:Str->Option Value}{base:Heap}{CO:Addr}
theorem dU.same {H H':Hp}{x:V}{d:Int×Int}(s:ar H H') (h:dU K H x d):dU K H' x d:=by
 obtain⟨p,e,q⟩:=h
 exact⟨p,e,s.seqT q⟩
theorem bg.same {H H':Hp}{x:V}{r:Bk.Room}(s:ar H H') (h:bg K H x r):bg K H' x r:=by
 obtain⟨a,xs,e,q,z⟩:=h
 exact⟨a,xs,e,s.seqT q,aJ (fun _ _ y=>y.same s) z⟩
def sf (K:W.Frag):Sp:=fun vs H Q _=>∃(x:V) (d:Int×Int),vs=[x]∧dU K H x d∧Q (.bl true) H
theorem zD:FnScope ["door"] ["door"] (am pO):={}
theorem xC {f:Addr}{fd:FuncData}(F:Fun K "is_door" "is_door" pO f fd) (T:TxB K mg CO) (W:Df P w K mg base CX0 1 "is_whole" ["value"] gO):FnOk P w K mg base CX0 2 f fd ["door"] (sf K):=by
 refine F.ok zD (fun vs H Q E h=>?_) (fun cdv A outer s H vs Q E hr h=>?_)
 ·obtain⟨x,d,rfl,_⟩:=h
  rfl
 obtain⟨x,⟨t,k⟩,rfl,⟨p,rfl,q⟩,z⟩:=h
 refine⟨_,ai (aL (fO (aw bG rfl T.t.isi cM (ac (pv 0) (ac (eA (v:=.ty "tuple") rfl T.t.tuple eE rfl) ae)))
  (fO (dA dz (aw aN rfl T.t.len bM (ac (pv 0) ae)) ao (aM _))
  (fO (aF W hr rfl pS (ac (pxT K (pv 0) ao) ae))
  (iP (aF W hr rfl pS (ac (pxT K (pv 0) ao) ae))))))),?_⟩
 refine⟨_,rfl,_,_,_,_,_,rfl,rfl,.tup q,kL,_,rfl,aG ?_⟩
 refine⟨_,rfl,p,_,rfl,.inr q,rfl,_,rfl,aG ?_⟩
 refine⟨_,rfl,p,_,0,.int t,rfl,rfl,q,eQ,t,rfl,_,rfl,aG ?_⟩
 exact⟨_,rfl,p,_,1,.int k,rfl,rfl,q,lW,k,rfl,z⟩
theorem i9:FnScope ["door","things","thing","later"] ["door","things"] (am j6):={}
structure BookA (K:W.Frag) (H:Hp) (x:V) (many:Int) (rs:List Bk.Room) (first:Int):Prop where
 ex:∃b l xs,x=.ref b∧SqT K H b [.int many,.ref l,.int first]∧SqL K H l xs∧Paired (bg K H) xs rs
theorem zE:FnScope ["book"] ["book"] (am pR):={}
end
end Ord
namespace L2
open PySem PySem.Spec PyProof.Rows
section
variable {X:Cx}{scope:Scope}{x:Str}{elt iter:Expr}{ifs:List Expr}{px pos:Pos}{wi:TI}{tt:TT}{te:TE}
theorem si {i0:Nat}{y:Str}{py spos:Pos}(hN:X.N.Nodup) (hi0:X.N[i0]?=some y) (hx:Loc X.env.scope y) (hc:X.calm=true) (S:CScope X.env.scope X.N scope x) (hi:PI X (.Name x px) iter wi)
  (ht:∀(cl:List (Str×Addr)) (C:Addr) (s₂:Shared) (H₂:Hp) (fp:List Addr) (aa:List (Addr×Obj)),PTs (cxC X scope cl x C s₂ H₂ fp aa) ifs tt)
  (he:∀(cl:List (Str×Addr)) (C:Addr) (s₂:Shared) (H₂:Hp) (fp:List Addr) (aa:List (Addr×Obj)),PE (cxC X scope cl x C s₂ H₂ fp aa) elt te)
  (hsw:swapsWith (.ListComp elt [⟨.Name x px,iter,ifs,0⟩] scope pos) (some (.Name y py)) spos.line X.env=pure true) (hs:∀v,foldedSetIterable iter X.env v=pure v:=by intro _;rfl)
  (hf:X.fn y=true∨X.env.scope.names.lookup y=some .local :=by first|exact .inl rfl|exact .inr rfl|assumption) :
  PS X (.Assign [.Name y py] (.ListComp elt [⟨.Name x px,iter,ifs,0⟩] scope pos) spos) (wv (nX wi tt te) (fZ i0)):=by
 intro aa s σ H D0 I h
 obtain⟨cl,hcl0,hcl1,hcl2⟩:=eN (scope:=scope) (env:=X.env) (fun y hy hf=>I.ok.has y.1 (S.free y hy hf))
 rw[exec_Assign_Name_used _ _ _ _ hsw]
 refine wpAny_bind (wpAny_standAt (wpAny_bind ?_))
 show wpAny _ X.A (do let _ ←comprehension (.ListComp elt [⟨.Name x px,iter,ifs,0⟩] scope pos) scope X.env _ (newList []) false (eval iter X.env) (some (assign (.Name y py) X.env))) _ _ s
 refine wpAny_bind (wpAny_mono (wpAny_comprehension_free (use:=some (assign (.Name y py) X.env)) (E:=X.xe) (Q:=fun _ s'=>SP X aa D0 .next s') rfl hs hcl0 S.kind S.names
  (thn (hi aa s σ H _ I h) fun xv s1 h1=>thn h1 fun itv s2 h2=>?_)) (fun _ s' hq=>wpAny_pure (wpAny_pure hq)) fun _ _ e=>e)
 obtain⟨it,fp,tn,J,H2,e,I2,T,st2,f2,W,⟨m0,w0⟩,turn⟩:=h2
 subst e
 refine wpAny_newObj_type (wpAny_newFunctionEnv S.cell (by intro y hy;cases hy) (fun h₁ hns hsb=>?_) S.kind)
 dsimp only at hns hsb ⊢
 generalize hP:s2.heap.push { cls:=.type "list",dict:=none,data:=.seq ([]:List Value).toArray }=P2 at hns hsb ⊢
 have hC:P2.objs.size=s2.heap.objs.size+1:=by rw[←hP,Heap.size_push]
 have hDC:s2.heap.objs.size≠P2.objs.size:=by rw[hC];exact Nat.ne_of_lt (Nat.lt_succ_self _)
 have hCle:s2.heap.objs.size≤P2.objs.size:=by rw[hC];exact Nat.le_succ _
 have old:∀b o,s2.heap.get? b=some o->h₁.get? b=some o:=fun b o e=>by
  have hb:=Heap.lt_size e
  exact hsb.extBut b o (by rw[hC];exact Nat.ne_of_lt (Nat.lt_succ_of_lt hb)) (Heap.get?_push_of_some _ (hP▸Heap.get?_push_of_some _ e))
 have hd:h₁.get? s2.heap.objs.size=some (aD [] 0):=hsb.extBut _ _ hDC (Heap.get?_push_of_some _ (hP▸Heap.get?_push_size _ rfl))
 have fo:∀b∈fp,∃o,s2.heap.get? b=some o:=fun b hb=>by
  obtain⟨o,e,_⟩:=T.obj _ _ st2 b hb
  exact⟨o,e⟩
 have neD:∀b∈fp,b≠s2.heap.objs.size:=fun b hb=>by
  obtain⟨o,e⟩:=fo b hb
  exact Nat.ne_of_lt (Heap.lt_size e)
 have JY:Inv (cxC X scope cl x P2.objs.size s2 H2 fp aa) [(s2.heap.objs.size,aD [] 0)] (none::σ) H2 { s2 with heap:=h₁,toks:=s2.toks+([]:List (Str×Value)).length }:=
  gf I2 S f2 fo hcl1 hcl2 (Nat.le_refl _) hCle hDC ⟨_,hns⟩ hd old
 have stat:∀{H':Hp}{its:List Value}{n:Nat},(∀b∈fp,H' b=none)->∀b∈fp,cW (cxC X scope cl x P2.objs.size s2 H2 fp aa) [(s2.heap.objs.size,aD its n)] H' b:=fun {H' its n} hn b hb=>by
  obtain⟨_,g1,g2,g3,g4,g5⟩:=f2 b hb
  obtain⟨o,e⟩:=fo b hb
  refine⟨hn b hb,?_,fun z=>?_,.inl hb,fun y c q=>g4 y c (hcl1 y c q),fun p hp=>?_⟩
  ·show b≠P2.objs.size
   exact Nat.ne_of_lt (Nat.lt_of_lt_of_le (Heap.lt_size e) hCle)
  ·rcases List.mem_cons.mp (I2.stkSub b z) with r|r
   ·exact g1 r
   ·exact g2 r
  ·rcases List.mem_append.mp hp with z|z
   ·exact g5 p z
   ·rw[List.mem_singleton.mp z];exact fun q=>neD b hb q.symm
 have nodup:(cxC X scope cl x P2.objs.size s2 H2 fp aa).N.Nodup:=List.nodup_cons.mpr ⟨S.fresh,hN⟩
 have loc:Loc (cxC X scope cl x P2.objs.size s2 H2 fp aa).env.scope x:=.inl (lookup_relabel_local S.var)
 have loop:∀s4:Shared,s4={ s2 with heap:=h₁,toks:=s2.toks+([]:List (Str×Value)).length }->
   codeAny (model X.prog X.w) X.A (.compLoop (.ListComp elt [⟨.Name x px,iter,ifs,0⟩] scope pos) 0 (.ref it) (.ref s2.heap.objs.size) (compEnvC scope cl P2.objs.size X.env))
    (compPost (model X.prog X.w) X.A X.xe (some (assign (.Name y py) X.env)) (fun _ s'=>SP X aa D0 .next s') (.ref s2.heap.objs.size) P2.objs.size) s4:=by
  rintro s4 rfl
  refine codeAny_loop rfl (fun n s'=>∃i ys its c H' v0,Inv (cxC X scope cl x P2.objs.size s2 H2 fp aa) [(s2.heap.objs.size,aD its c)] (v0::σ) H' s'∧tn i s'.heap∧(∀b∈fp,H' b=none)∧av ys its∧W i n ys H') ?_ m0
   ⟨0,[],[],0,H2,none,JY,T.keep _ _ _ st2 (fun b _ o e=>old b o e),fun b hb=>(f2 b hb).1,.nil,w0⟩
  rintro n s3 ⟨i,ys,its,c,H3,v0,I3,st3,fr3,rv,w3⟩
  show wpAny _ _ ((compTurn (.ListComp elt [⟨.Name x px,iter,ifs,0⟩] scope pos) 0 (.ref it) (.ref s2.heap.objs.size) (compEnvC scope cl P2.objs.size X.env)).onRaise (fun z=>do noteFrame z (compEnvC scope cl P2.objs.size X.env);theTreesLotGoes z)) _ _ s3
  refine wpAny_noted ?_
  rw[compTurn_list]
  rcases turn i n ys H3 w3 with⟨stop,hz,qn⟩|⟨go,hz,NN,hNN,step⟩
  ·refine wpAny_bind (wpAny_standAt (wpAny_bind (thn (T.done (cxC X scope cl x P2.objs.size s2 H2 fp aa) rfl rfl rfl hc i _ s3 _ H3 _ I3 (stat fr3) st3 stop) fun r s5 hh9=>?_)))
   obtain⟨hr,I5⟩:=hh9
   subst hr
   refine wpAny_pure ?_
   obtain⟨mC,hmC,_⟩:=I5.loc
   obtain⟨I6,nD⟩:=ib I2 f2 (Nat.le_refl _) hCle I5 (Heap.SameBut.refl _ _) rv hz
   have fC:H3 P2.objs.size=none:=I5.free
   have q:=qn _ nD
   have big:∀b o,s2.heap.get? b=some o->b≠P2.objs.size:=fun b o e=>Nat.ne_of_lt (Nat.lt_of_lt_of_le (Heap.lt_size e) hCle)
   have bigC:∀z c,X.env.cells.lookup z=some c->c≠P2.objs.size:=fun z c e=>by
    obtain⟨v,q⟩:=I2.cell z c e
    exact Nat.ne_of_lt (Nat.lt_of_lt_of_le q.lt hCle)
   have bigL:X.env.locals≠P2.objs.size:=Nat.ne_of_lt (Nat.lt_of_lt_of_le I2.lt hCle)
   refine wpAny_assign_Name (iO (v:=.ref s2.heap.objs.size) I6 hN hi0 hx rfl (fun s7 I7 ⟨a,sb,ha⟩=>?_) hf)
   have neC:P2.objs.size≠a:=by
    rcases ha with ha|ha
    ·rw[ha];exact Ne.symm bigL
    ·exact Ne.symm (bigC _ _ ha)
   exact⟨mC,hmC.sameBut sb neC,fun h' hs'=>⟨_,_,I7.turned (t':=s7.toks) (it:=P2.objs.size) (fun b o hb e=>(hs'.2 b hb).trans e) (by rw[ap (Ne.symm hDC)];exact fC) (Ne.symm bigL) (.inr (Nat.le_trans I2.sz hCle)) bigC (fun p hp=>big _ _ (I2.pin p hp).1),q⟩⟩
  ·refine wpAny_bind (wpAny_standAt (wpAny_bind (thn (T.item (cxC X scope cl x P2.objs.size s2 H2 fp aa) rfl rfl rfl hc i _ s3 _ H3 _ I3 (stat fr3) st3 go) fun r s5 hh9=>?_)))
   obtain⟨u,hr,h5⟩:=hh9
   subst hr
   refine wpAny_bind (thn h5 fun _ s6 hh9=>?_)
   obtain⟨xv,H6,I6,r6,y6,st6,fr6⟩:=hh9
   have I6':=I6.pinned (stat fr6) (T.obj _ _ st6)
   refine wpAny_bind (wpAny_assign_Name (dY (i:=0) I6' nodup rfl loc r6 (fun s7 I7=>?_) (.inr (lookup_relabel_local S.var))))
   have q7:=step xv H6 y6
   refine wpAny_bind (bU (thn (ht cl P2.objs.size s2 H2 fp aa _ s7 _ H6 _ I7 q7) fun ok s8 hh9=>?_))
   obtain⟨H8,I8,q8⟩:=hh9
   have back:∀{H9:Hp}{s9:Shared},Inv (cxC X scope cl x P2.objs.size s2 H2 fp aa) ([(s2.heap.objs.size,aD its c)]++eI fp s6.heap) (some xv::σ) H9 s9->tn (i+1) s9.heap∧∀b∈fp,H9 b=none:=fun {H9 s9} I9=>by
    refine⟨T.keep _ _ _ st6 fun b hb o e=>(I9.pin (b,o) (List.mem_append_right _ (List.mem_append_right _ (bE hb e)))).1,fun b hb=>?_⟩
    obtain⟨o,e,d⟩:=T.obj _ _ st6 b hb
    exact(I9.pin (b,o) (List.mem_append_right _ (List.mem_append_right _ (bE hb e)))).2.1
   cases ok with
   | false=>
    obtain⟨m',hm,w8⟩:=hNN ys H8 q8
    obtain⟨t8,fr8⟩:=back I8
    exact wpAny_pure ⟨rfl,m',hm,i+1,ys,its,c,H8,_,I8.unpinned,t8,fr8,rv,w8⟩
   | true=>
    refine wpAny_bind (wpAny_bind (bU (thn (he cl P2.objs.size s2 H2 fp aa _ s8 _ H8 _ I8 q8) fun yv s9 hh=>ex5 hh fun y H9 I9 r9 q9=>?_)))
    obtain⟨m',hm,w9⟩:=hNN _ _ q9
    obtain⟨t9,fr9⟩:=back I9
    have I9':=I9.unpinned
    obtain⟨eD,nD,neL,nf,_⟩:=I9'.pin (s2.heap.objs.size,aD its c) (List.mem_append_right _ List.mem_cons_self)
    refine wpAny_bind (wpAny_list_append_plain (items:=its.toArray) ⟨c,eD⟩ (fun h10 hp10 hs10=>?_) (by rw[List.size_toArray,←rv.length];exact Nat.le_of_lt hz))
    obtain⟨c',e10⟩:=hp10
    have e10':h10.get? s2.heap.objs.size=some (aD (its++[yv]) c'):=by rw[e10];simp
    have I10:Inv (cxC X scope cl x P2.objs.size s2 H2 fp aa) [] (some xv::σ) H9 { s9 with heap:=h10 }:=by
     have I9e:Inv (cxC X scope cl x P2.objs.size s2 H2 fp aa) [] (some xv::σ) H9 s9:=I9'.pins_of fun p hp=>absurd hp (by simp)
     refine I9e.turned (t':=s9.toks) (it:=s2.heap.objs.size) (fun b o hb q=>(hs10.2 b hb).trans q) nD neL (.inr (Nat.le_refl _)) (fun y cc q=>?_) fun p hp=>?_
     ·obtain⟨v,z⟩:=I2.cell y cc (hcl1 y cc q)
      exact Nat.ne_of_lt z.lt
     ·have hp':p∈X.pn++aa:=by
       have z:p∈(X.pn++aa)++[]:=hp
       simpa using z
      exact Nat.ne_of_lt (Heap.lt_size (I2.pin p hp').1)
    have I11:Inv (cxC X scope cl x P2.objs.size s2 H2 fp aa) [(s2.heap.objs.size,aD (its++[yv]) c')] (some xv::σ) H9 { s9 with heap:=h10 }:=
     I10.pins_of fun p hp=>by rw[List.mem_singleton.mp hp];exact⟨e10',nD,neL,nf,fun v q=>nomatch q⟩
    refine wpAny_pure (wpAny_pure ⟨rfl,m',hm,i+1,ys++[y],its++[yv],c',H9,_,I11,?_,fr9,rv.append (.cons r9 .nil),w9⟩)
    exact T.keep _ _ _ t9 fun b hb o q=>(hs10.2 b (neD b hb)).trans q
 exact codeAny_compStart_list (loop _ rfl) (T.self X.A 0 _ _ _ (T.keep _ _ _ st2 (fun b _ o e=>old b o e)) (loop _ rfl))
end
end L2
namespace Ord
open PySem L2 Mx
section
variable {P:Program}{w:World}{K:W.Frag}{mg:Str->Option Value}{base:Heap}{CO:Addr}
def dW (ms:List Nat):List V:=ms.map fun m:Nat=>V.int m
theorem pT {ms:List Nat}{k:Nat}(h:k<ms.length):atI (dW ms) (k:Int)=some (.int ((ms.getD k 0:Nat):Int)):=br (by
 unfold dW
 rw[List.getElem?_map,List.getElem?_eq_getElem h,List.getD_eq_getElem?_getD,List.getElem?_eq_getElem h]
 rfl)
theorem zF:FnScope ["many","things","first"] ["many","things","first"] (am pQ):={}
theorem jD:FnScope ["many","room","number","last","door"] ["many","room","number"] (am pP):={}
theorem GY {ns:List Int}:dW (ns.map Int.toNat)=(ns.map Int.toNat).map fun m:Nat=>V.int m:=rfl
theorem pU:FnScope ["room","things","found"] ["room","things"] (am jC):={}
end
end Ord
namespace Bk
open Mx
theorem xD {r:Room}(rise:(r.map (·.1)).Pairwise (· < ·)) (h:∀d∈r,0≤d.1∧d.1<8):r.length≤8:=by
 have nd:(r.map (·.1)).Nodup:=rise.imp fun h e=>absurd h (by rw[e];lia)
 have:=L2.cO (r.map (·.1)) (aY 8) nd fun x hx=>by
  obtain⟨d,hd,rfl⟩:=List.mem_map.mp hx
  exact cL.mpr (h d hd)
 rw[List.length_map,cV] at this
 exact this
theorem tX {rs:List Room}(m:MOk rs) (w:WF rs) {i:Nat}{r:Room}(h:rs[i]?=some r) :
  (∀d∈r,0≤d.1∧d.1<8∧0≤d.2∧d.2<((aU (rs.take i)).length:Nat)∧((aU (rs.take i)).getD d.2.toNat 0).testBit d.1.toNat=false∧bN (aU (rs.take i)) d=msk rs (i+2))∧aU (rs.take (i+1))=aU (rs.take i)++[msk rs (i+2)]:=by
 have il:=(List.getElem?_eq_some_iff.mp h).1
 have tl:(rs.take i).length=i:=by rw[List.length_take];lia
 have ml:=cF (rs.take i)
 have ok:=w i r h
 have each:∀d∈r,0≤d.1∧d.1<8∧0≤d.2∧d.2<((aU (rs.take i)).length:Nat)∧((aU (rs.take i)).getD d.2.toNat 0).testBit d.1.toNat=false∧bN (aU (rs.take i)) d=msk rs (i+2):=fun d hd=>by
  obtain⟨a1,a2,a3,a4⟩:=m i r h d hd
  obtain⟨b1,b2⟩:=ok.ahead d hd
  have e:(aU (rs.take i)).getD d.2.toNat 0=msk rs d.2.toNat:=(dE (List.take_prefix i rs) (by rw[tl];lia)).symm
  refine⟨a1,a2,by lia,by rw[ml,tl];lia,by rw[e];exact a3,?_⟩
  unfold bN
  rw[e]
  exact a4
 refine⟨each,?_⟩
 rw[List.take_add_one,h]
 unfold aU
 rw[Option.toList_some,List.foldl_append]
 show gm (aU (rs.take i)) r=_
 unfold gm
 cases r with
 | nil=>exact absurd rfl ok.ne
 | cons d r=>rw[List.headD_cons,(each d List.mem_cons_self).2.2.2.2.2];rfl
end Bk
namespace L2
theorem ar.seqL {K:PySem.W.Frag}{H H':Hp}{a:PySem.Addr}{xs:List V}(e:ar H H') (h:SqL K H a xs):SqL K H' a xs:=by
 rcases h with(h|⟨o,h⟩)|h
 ·exact .inl (.inl (e _ _ h))
 ·exact .inl (.inr ⟨o,e _ _ h⟩)
 ·exact .inr h
end L2
namespace Ord
open PySem L2 Mx
section
variable {P:Program}{w:World}{K:W.Frag}{mg:Str->Option Value}{base:Heap}{CO:Addr}
structure Whole (many:Int) (rs:List Bk.Room):Prop where
 wf:Bk.WF rs
 mask:Bk.MOk rs
 less:∀r∈rs,∀d∈r,d.1<many
 few:rs.length≤1000
theorem pV:FnScope ["many","rooms","things","room"] ["many","rooms"] (am tV):={}
end
end Ord
namespace Bk
open Mx
structure Wd (rs:List Room) (ws:List Int):Prop where
 nd:ws.Nodup
 inn:∀x∈ws,0≤x∧x<(rs.length:Int)+2
 z:(0:Int)∈ws
 o:(1:Int)∈ws
theorem Wd.len {rs:List Room}{ws:List Int}(w:Wd rs ws):ws.length≤rs.length+2:=by
 have:=L2.cO ws (aY (rs.length+2)) w.nd fun x hx=>cL.mpr (by have:=w.inn x hx;lia)
 rw[cV] at this
 exact this
theorem sj {rs:List Room}(wf:WF rs):∀(n:Nat) (k:Int) (ws:List Int),cX n rs k->Wd rs ws->Wd rs (walk n rs k ws)∧(∀x∈ws,x∈walk n rs k ws)∧∀x∈walk n rs k ws,x∈ws∨x≤k
 | 0,k,ws,f,w=>⟨w,fun _ h=>h,fun x h=>.inl h⟩
 | n+1,k,ws,f,w=>by
  unfold walk
  by_cases c:k∈ws
  ·rw[if_pos c]
   exact⟨w,fun _ h=>h,fun x h=>.inl h⟩
  rw[if_neg c]
  obtain⟨k2,kl,fd⟩:2≤k∧(k-2).toNat<rs.length∧∀d∈bd rs k,cX n rs d.2:=by
   rcases f with f|f|f
   ·exact absurd (f▸w.z) c
   ·exact absurd (f▸w.o) c
   ·exact f
  have ok:=wf _ _ (i8 kl)
  have fold:∀(ds:Room) (ws:List Int),(∀d∈ds,cX n rs d.2∧d.2<k)->Wd rs ws->Wd rs (ds.foldl (fun w d=>walk n rs d.2 w) ws)∧(∀x∈ws,x∈ds.foldl (fun w d=>walk n rs d.2 w) ws)∧∀x∈ds.foldl (fun w d=>walk n rs d.2 w) ws,x∈ws∨x<k:=by
   intro ds
   induction ds with
   | nil=>intro ws _ w;exact⟨w,fun _ h=>h,fun x h=>.inl h⟩
   | cons d ds ih=>
    intro ws hd w
    obtain⟨a1,a2,a3⟩:=sj wf n d.2 ws (hd d List.mem_cons_self).1 w
    obtain⟨b1,b2,b3⟩:=ih (walk n rs d.2 ws) (fun d' h'=>hd d' (List.mem_cons_of_mem _ h')) a1
    refine⟨b1,fun x hx=>b2 x (a2 x hx),fun x hx=>?_⟩
    rcases b3 x hx with h|h
    ·rcases a3 x h with h|h
     ·exact .inl h
     ·exact .inr (Int.lt_of_le_of_lt h (hd d List.mem_cons_self).2)
    ·exact .inr h
  obtain⟨a1,a2,a3⟩:=fold (bd rs k) ws (fun d hd=>⟨fd d hd,by have:=(ok.ahead d hd).2;lia⟩) w
  have kn:k∉(bd rs k).foldl (fun w d=>walk n rs d.2 w) ws:=fun h=>by
   rcases a3 k h with h|h
   ·exact c h
   ·lia
  refine⟨⟨?_,fun x hx=>?_,List.mem_append_left _ a1.z,List.mem_append_left _ a1.o⟩,fun x hx=>List.mem_append_left _ (a2 x hx),fun x hx=>?_⟩
  ·rw[List.nodup_append]
   exact⟨a1.nd,by simp,fun x hx y hy=>by rw[List.mem_singleton.mp hy];rintro rfl;exact kn hx⟩
  ·rcases List.mem_append.mp hx with h|h
   ·exact a1.inn x h
   ·rw[List.mem_singleton.mp h];lia
  ·rcases List.mem_append.mp hx with h|h
   ·rcases a3 x h with h|h
    ·exact .inl h
    ·exact .inr (by lia)
   ·rw[List.mem_singleton.mp h];exact .inr (Int.le_refl _)
theorem ja {rs:List Room}(wf:WF rs) {n:Nat}{k:Int}{ws:List Int}(w:Wd rs ws) (kl:(k-2).toNat<rs.length) (k2:2≤k) (c:k∉ws) (fd:∀d∈bd rs k,cX n rs d.2) :
  ∀i,i≤(bd rs k).length->Wd rs (((bd rs k).take i).foldl (fun w d=>walk n rs d.2 w) ws)∧k∉((bd rs k).take i).foldl (fun w d=>walk n rs d.2 w) ws
 | 0,_=>⟨w,c⟩
 | i+1,h=>by
  obtain⟨a1,a2⟩:=ja wf w kl k2 c fd i (by lia)
  have hi:i<(bd rs k).length:=by lia
  have e:(bd rs k).take (i+1)=(bd rs k).take i++[(bd rs k)[i]]:=by rw[List.take_add_one,List.getElem?_eq_getElem hi];rfl
  rw[e,List.foldl_append]
  show Wd rs (walk n rs (bd rs k)[i].2 _)∧k∉walk n rs (bd rs k)[i].2 _
  have mem:(bd rs k)[i]∈bd rs k:=List.getElem_mem hi
  have ok:=(wf _ _ (i8 kl)).ahead _ mem
  obtain⟨b1,b2,b3⟩:=sj wf n _ _ (fd _ mem) a1
  refine⟨b1,fun hk=>?_⟩
  rcases b3 k hk with z|z
  ·exact a2 z
  ·lia
end Bk
namespace L2
open PySem
def cq (d:Addr) (H H':Hp):Prop:=∀b o,b≠d->H b=some o->H' b=some o
section
variable {K:W.Frag}{H H' H'':Hp}{a d:Addr}{xs:List V}{kvs:List (Key×V)}
theorem cq.refl (d:Addr) (H:Hp):cq d H H:=fun _ _ _ e=>e
theorem cq.trans (e:cq d H H') (e':cq d H' H''):cq d H H'':=fun b o n h=>e' b o n (e b o n h)
theorem cq.upd (o:HO):cq d H (L2.upd H d o):=fun b u n h=>by rw[ap n];exact h
theorem cq.seqT (e:cq d H H') (hd:H d=some (.dK kvs)) (h:SqT K H a xs):SqT K H' a xs:=by
 rcases h with(h|⟨o,h⟩)|h
 ·exact .inl (.inl (e _ _ (by rintro rfl;rw[hd] at h;cases h) h))
 ·exact .inl (.inr ⟨o,e _ _ (by rintro rfl;rw[hd] at h;cases h) h⟩)
 ·exact .inr h
theorem cq.seqL (e:cq d H H') (hd:H d=some (.dK kvs)) (h:SqL K H a xs):SqL K H' a xs:=by
 rcases h with(h|⟨o,h⟩)|h
 ·exact .inl (.inl (e _ _ (by rintro rfl;rw[hd] at h;cases h) h))
 ·exact .inl (.inr ⟨o,e _ _ (by rintro rfl;rw[hd] at h;cases h) h⟩)
 ·exact .inr h
end
theorem aR {α:Type}{l:List α}{i:Nat}{x:α}(h:l[i]?=some x):l.take (i+1)=l.take i++[x]:=by rw[List.take_add_one,h];rfl
def wlk (ws:List Int):List (Key×V):=ws.map fun k=>(Sum.inl k,V.bl true)
theorem lX (ws:List Int) (k:Int):(bS (wlk ws) (.inl k)).isSome=decide (k∈ws):=by
 induction ws with
 | nil=>rfl
 | cons x ws ih=>
  by_cases h:x=k
  ·subst h
   show(bS ((Sum.inl x,V.bl true)::wlk ws) (.inl x)).isSome=_
   rw[dj rfl]
   simp
  ·show(bS ((Sum.inl x,V.bl true)::wlk ws) (.inl k)).isSome=_
   rw[dm (by intro e;exact h (Sum.inl.inj e)),ih]
   simp[Ne.symm h]
theorem zG {ws:List Int}{k:Int}(h:k∉ws):cr (wlk ws) (.inl k) (.bl true)=wlk (ws++[k]):=by
 unfold cr
 rw[ip,lX,decide_eq_false h,if_neg (by decide)]
 unfold wlk
 rw[List.map_append]
 rfl
end L2
namespace Ord
open PySem L2 Mx
section
variable {P:Program}{w:World}{K:W.Frag}{mg:Str->Option Value}{base:Heap}{CO:Addr}
theorem bg.sameB {H H':Hp}{d:Addr}{kvs:List (Key×V)}{x:V}{r:Bk.Room}(s:cq d H H') (hd:H d=some (.dK kvs)) (h:bg K H x r):bg K H' x r:=by
 obtain⟨a,xs,e,q,z⟩:=h
 exact⟨a,xs,e,s.seqT hd q,aJ (fun _ _ ⟨p,e,q⟩=>⟨p,e,s.seqT hd q⟩) z⟩
def lj (K:W.Frag) (n:Nat):Sp:=fun vs H Q _=>∃(l wd:Addr) (xs:List V) (rs:List Bk.Room) (k:Int) (ws:List Int),vs=[.ref l,.int k,.ref wd]∧SqL K H l xs∧Paired (bg K H) xs rs∧Bk.WF rs∧rs.length≤1000∧
 H wd=some (.dK (wlk ws))∧Bk.Wd rs ws∧Bk.cX n rs k∧∀H',cq wd H H'->H' wd=some (.dK (wlk (Bk.walk n rs k ws)))->Q .non H'
theorem vF:FnScope ["rooms","number","walked","door"] ["rooms","number","walked"] (am om):={}
theorem pW {f:Addr}{fd:FuncData}(F:Fun K "walk_rooms" "walk_rooms" om f fd) (T:TxB K mg CO) (n:Nat) (WW:∀m,n=m+1->Df P w K mg base CX0 (m+1) "walk_rooms" ["rooms","number","walked"] (lj K m)) :
  FnOk P w K mg base CX0 (n+1) f fd ["rooms","number","walked"] (lj K n):=by
 refine F.ok vF (fun vs H Q E h=>?_) (fun cdv A outer s H vs Q E hr h=>?_)
 ·obtain⟨l,wd,xs,rs,k,ws,rfl,_⟩:=h
  rfl
 obtain⟨l,wd,xs,rs,k,ws,rfl,ql,pr,wf,few,hwd,W,fit,z⟩:=h
 obtain⟨t2,m2⟩:=T.low
 by_cases c:k∈ws
 ·refine⟨_,af (aQ (uB (u6 (nW hr) (pv 1) (pv 2))) (ai lI) aB) (af bn (ai bn)),?_⟩
  refine⟨_,rfl,_,rfl,wd,_,rfl,iq.k (k:=.inl k) hwd,_,rfl,?_⟩
  rw[lX,decide_eq_true c]
  refine aG ?_
  rw[Bk.jB c] at z
  exact z H (cq.refl _ _) hwd
 cases n with
 | zero=>
  exfalso
  rcases fit with e|e
  ·exact c (e▸W.z)
  ·exact c (e▸W.o)
 | succ n=>
  obtain⟨k2,kl,fd'⟩:2≤k∧(k-2).toNat<rs.length∧∀d∈Bk.bd rs k,Bk.cX n rs d.2:=by
   rcases fit with e|e|e
   ·exact absurd (e▸W.z) c
   ·exact absurd (e▸W.o) c
   ·exact e
  have D:=WW n rfl
  refine⟨_,af (aQ (uB (u6 (nW hr) (pv 1) (pv 2))) (ai lI) aB)
   (af (PS.nox (cZ PassesOwn.never rfl (gI (bT (show IxR _ (dJ K) from bA) (pv 0) (aA uG (pv 1) (bj (v:=.int 2) rfl m2 ⟨t2,rfl⟩)) (fun _ _=>rfl))) (bQ (i:=3) vF.nd rfl (Or.inl rfl))
    (ai (bq (aF D hr rfl pS (ac (pv 0) (ac (pxT K (pv 3) ao) (ac (pv 2) ae))))))))
   (ai (zf (nW hr) (pv 2) (pv 1) kz rfl))),?_⟩
  refine⟨_,rfl,_,rfl,wd,_,rfl,iq.k (k:=.inl k) hwd,_,rfl,?_⟩
  rw[lX,decide_eq_false c]
  refine aO ?_
  obtain⟨x,hx,ra⟩:=io pr (Bk.i8 kl)
  obtain⟨a,ys,rfl,qa,pd⟩:=id ra
  have ik:atI xs (k-2)=some (.ref a):=by
   have:=br hx
   rw[show(((k-2).toNat:Nat):Int)=k-2 by lia] at this
   exact this
  refine⟨_,rfl,_,rfl,k,2,rfl,rfl,l,xs,k-2,.ref a,rfl,rfl,ql,ik,a,rfl,⟨_,qa⟩,
   rE (K:=K) (a:=a) (xs:=ys) (fun i σ H2=>∃v3,σ=[some (.ref l),some (.int k),some (.ref wd),v3]∧cq wd H H2∧H2 wd=some (.dK (wlk (((Bk.bd rs k).take i).foldl (fun w d=>Bk.walk n rs d.2 w) ws)))) ⟨none,rfl,cq.refl _ _,hwd⟩ ?_ ?_ ?_⟩
  ·rintro i σ H2 _ ⟨v3,rfl,s2,_⟩
   exact s2.seqT hwd qa
  ·rintro i y σ H2 hy ⟨v3,rfl,s2,h2⟩
   obtain⟨⟨dt,dk⟩,hd,p,rfl,qd⟩:=bR pd hy
   obtain⟨il,ie⟩:=List.getElem?_eq_some_iff.mp hd
   obtain⟨wp,kp⟩:=Bk.ja wf W kl k2 c fd' i (by lia)
   refine⟨_,rfl,_,rfl,p,_,1,.int dk,rfl,rfl,s2.seqT hwd qd,lW,_,rfl,l,wd,xs,rs,dk,_,rfl,s2.seqL hwd ql,aJ (fun _ _ z=>z.sameB s2 hwd) pr,wf,few,h2,wp,fd' _ (List.mem_of_getElem? hd),fun H3 s3 h3=>?_⟩
   refine⟨_,rfl,s2.trans s3,?_⟩
   rw[aR hd,List.foldl_append]
   exact h3
  ·rintro σ H2 ⟨v3,rfl,s2,h2⟩
   have hl:=pd.length
   obtain⟨wp,kp⟩:=Bk.ja wf W kl k2 c fd' (Bk.bd rs k).length (Nat.le_refl _)
   rw[hl] at h2
   rw[List.take_length] at h2 wp kp
   refine⟨_,rfl,_,rfl,wd,_,rfl,o4.k (k:=.inl k) h2 ?_,?_⟩
   ·unfold wlk
    rw[List.length_map,sizeLine_eq]
    have:=wp.len
    lia
   ·refine z _ (s2.trans (cq.upd _)) ?_
    have e:Bk.walk (n+1) rs k ws=(Bk.bd rs k).foldl (fun w d=>Bk.walk n rs d.2 w) ws++[k]:=by rw[Bk.walk];exact if_neg c
    rw[ag,zG kp,e]
theorem sr {f:Addr}{fd:FuncData}(F:Fun K "walk_rooms" "walk_rooms" om f fd) (T:TxB K mg CO) (b:cC K fd ["rooms","number","walked"] []) (m:mg "walk_rooms"=some (.ref f)) :
  ∀n,FnOk P w K mg base CX0 (n+1) f fd ["rooms","number","walked"] (lj K n)
 | 0=>pW F T 0 fun m h=>nomatch h
 | n+1=>pW F T (n+1) fun k h=>by
  cases h
  exact⟨f,fd,sr F T b m n,b,F.kp,m⟩
end
end Ord
namespace L2
open PySem
def enc (r:Bk.Room):List (List Int):=r.map fun d=>[d.1,d.2]
theorem ss {r r':Bk.Room}(h:enc r=enc r'):r=r':=by
 unfold enc at h
 exact(List.map_inj_right (f:=fun d:Int×Int=>[d.1,d.2]) (fun a b e=>by
  simp only[List.cons.injEq,and_true] at e
  exact Prod.ext e.1 e.2)).mp h
theorem DQ:bootBuiltins "set"=some (.type "set"):=by decide +kernel
end L2
namespace Ord
open PySem L2 Mx
section
variable {P:Program}{w:World}{K:W.Frag}{mg:Str->Option Value}{base:Heap}{CO:Addr}
theorem bg.rep {H:Hp}{x:V}{r:Bk.Room}(h:bg K H x r):cR.rep K H x (enc r):=by
 obtain⟨a,xs,e,q,z⟩:=h
 refine⟨a,xs,e,q,?_⟩
 clear q e
 induction z with
 | nil=>exact .nil
 | cons h _ ih=>
  obtain⟨p,e,q⟩:=h
  exact .cons ⟨p,_,e,q,.cons rfl (.cons rfl .nil)⟩ ih
theorem gn {H:Hp}:∀{xs:List V}{rs:List Bk.Room},Paired (bg K H) xs rs->Paired (cR.rep K H) xs (rs.map enc)
 | _,_,.nil=>.nil
 | _,_,.cons h t=>.cons h.rep (gn t)
theorem su:FnScope ["rooms","first","walked"] ["rooms","first"] (am li):={}
end
end Ord
namespace Bk
open Mx
def lY (m:Int) (rs:List Room):Prop:=∀r∈rs,∀d∈r,d.1<m
theorem xE {rs:List Room}{r x:Room}(h:x∈(keep rs r).2):x∈rs∨x=r:=by
 rcases cP rs r with e|⟨_,e,_⟩
 ·rw[e] at h;exact .inl h
 ·rw[e] at h
  rcases List.mem_append.mp h with h|h
  ·exact .inl h
  ·exact .inr (List.mem_singleton.mp h)
theorem nh {m:Int}{f:aq->List Room->Nat×List Room}{os:aq}(hf:∀t rs,lY m rs->lY m (f (rests t os) rs).2) :
  ∀(ts:List Int) (rs:List Room),(∀t∈ts,t<m)->lY m rs->lY m (aP f os ts rs).2∧∀d∈(aP f os ts rs).1,d.1<m
 | [],rs,_,h=>⟨h,fun d hd=>by cases hd⟩
 | t::ts,rs,ht,h=>by
  obtain⟨a1,a2⟩:=nh hf ts _ (fun t' h'=>ht t' (List.mem_cons_of_mem _ h')) (hf t rs h)
  refine⟨a1,fun d hd=>?_⟩
  rcases List.mem_cons.mp hd with rfl|hd
  ·exact ht t List.mem_cons_self
  ·exact a2 d hd
theorem pX {m:Int}:∀(n:Nat) (os:aq) (rs:List Room),(∀o∈os,∀x∈o,x<m)->lY m rs->lY m (lay n os rs).2
 | 0,_,_,_,h=>h
 | n+1,os,rs,ho,h=>by
  obtain⟨a1,a2⟩:=nh (m:=m) (f:=lay n) (os:=os) (fun t rs h=>pX n (rests t os) rs (fun o hr x hx=>ho _ (aV.mp hr) x (List.mem_cons_of_mem _ hx)) h) (heads os) rs (fun t ht=>by
   obtain⟨_,r,hr⟩:=bJ.mp ht
   exact ho _ hr t List.mem_cons_self) h
  intro r hr
  rcases xE hr with hr|rfl
  ·exact a1 r hr
  ·exact a2
theorem pY (rs:List Room) (r:Room):(keep rs r).2.length≤rs.length+1:=by
 rcases cP rs r with e|⟨_,e,_⟩
 ·rw[e];lia
 ·rw[e,List.length_append];simp
def iw:Nat->Nat
 | 0=>0
 | n+1=>1+(n+1)*iw n
theorem pZ {f:aq->List Room->Nat×List Room}{os:aq}{b:Nat}:∀(ts:List Int) (rs:List Room),(∀t∈ts,∀rs,(f (rests t os) rs).2.length≤rs.length+b)->(aP f os ts rs).2.length≤rs.length+ts.length*b
 | [],rs,_=>by show rs.length≤_;lia
 | t::ts,rs,hf=>by
  have h1:=pZ ts (f (rests t os) rs).2 fun t' h'=>hf t' (List.mem_cons_of_mem _ h')
  have h2:=hf t List.mem_cons_self rs
  show(aP f os ts (f (rests t os) rs).2).2.length≤_
  rw[List.length_cons,Nat.succ_mul]
  lia
theorem vG {n:Nat}{S:Int->Prop}{os:aq}(h:fX n S os) (ne:os≠[]):(heads os).length≤n:=by
 obtain⟨o,ho⟩:=List.exists_mem_of_ne_nil os ne
 have so:=h o ho
 have nd:(heads os).Nodup:=(cK os).imp fun h e=>absurd h (by rw[e];lia)
 have:=L2.cO (heads os) o nd fun t ht=>by
  obtain⟨_,r,hr⟩:=bJ.mp ht
  exact(so.2.2.2 t).mpr (((h _ hr).2.2.2 t).mp List.mem_cons_self)
 rw[so.1] at this
 exact this
theorem jb:∀(n:Nat) (S:Int->Prop) (os:aq) (rs:List Room),fX n S os->os≠[]->(lay n os rs).2.length≤rs.length+iw n
 | 0,_,_,rs,_,_=>Nat.le_refl _
 | n+1,S,os,rs,h,ne=>by
  have h1:=pZ (f:=lay n) (os:=os) (b:=iw n) (heads os) rs fun t ht rs=>by
   obtain⟨_,r,hr⟩:=bJ.mp ht
   exact jb n _ (rests t os) rs (h.rests t) (fun e=>by
    have:=aV.mpr hr
    rw[e] at this
    cases this)
  have h2:=vG h ne
  have h3:=pY (aP (lay n) os (heads os) rs).2 (aP (lay n) os (heads os) rs).1
  have h4:(heads os).length*iw n≤(n+1)*iw n:=Nat.mul_le_mul_right _ h2
  show(keep _ _).2.length≤_
  unfold iw
  lia
end Bk
namespace Bk
open Mx
end Bk
namespace Bk
open Mx
def fB (t:Int) (o:List Int):Bool:=match o with
 | x::_=>decide (x=t)
 | []=>false
theorem jc {t t':Int}(h:t'≠t):∀os:aq,rests t' (os.filter fun o=>!fB t o)=rests t' os
 | []=>rfl
 | o::os=>by
  have ih:=jc h os
  unfold rests at ih ⊢
  cases o with
  | nil=>rw[List.filter_cons_of_pos rfl,List.filterMap_cons,List.filterMap_cons,ih]
  | cons x o=>
   by_cases c:x=t
   ·rw[List.filter_cons_of_neg (by simp[fB,c]),ih,List.filterMap_cons]
    have:fJ t' (x::o)=none:=if_neg (by rw[c];exact Ne.symm h)
    rw[this]
   ·rw[List.filter_cons_of_pos (by simp[fB,c]),List.filterMap_cons,List.filterMap_cons,ih]
theorem jT (t:Int):∀os:aq,(rests t os).length+(os.filter fun o=>!fB t o).length≤os.length
 | []=>Nat.le_refl _
 | o::os=>by
  have ih:=jT t os
  unfold rests at ih ⊢
  cases o with
  | nil=>
   rw[List.filter_cons_of_pos rfl,List.filterMap_cons]
   have:fJ t []=none:=rfl
   rw[this]
   simp only[List.length_cons]
   lia
  | cons x o=>
   by_cases c:x=t
   ·rw[List.filter_cons_of_neg (by simp[fB,c]),List.filterMap_cons]
    have:fJ t (x::o)=some o:=if_pos c
    rw[this]
    simp only[List.length_cons]
    lia
   ·rw[List.filter_cons_of_pos (by simp[fB,c]),List.filterMap_cons]
    have:fJ t (x::o)=none:=if_neg c
    rw[this]
    simp only[List.length_cons]
    lia
theorem gp:∀(ts:List Int) (os:aq),ts.Nodup->(ts.map fun t=>(rests t os).length).sum≤os.length
 | [],os,_=>Nat.zero_le _
 | t::ts,os,nd=>by
  rw[List.nodup_cons] at nd
  have ih:=gp ts (os.filter fun o=>!fB t o) nd.2
  have e:(ts.map fun t'=>(rests t' (os.filter fun o=>!fB t o)).length)=ts.map fun t'=>(rests t' os).length:=List.map_congr_left fun t' h'=>by
   have ne:t'≠t:=by rintro rfl;exact nd.1 h'
   rw[jc ne]
  rw[e] at ih
  have:=jT t os
  rw[List.map_cons,List.sum_cons]
  lia
theorem ix {f:aq->List Room->Nat×List Room}{os:aq}{b:Int->Nat}:∀(ts:List Int) (rs:List Room),(∀t∈ts,∀rs,(f (rests t os) rs).2.length≤rs.length+b t)->(aP f os ts rs).2.length≤rs.length+(ts.map b).sum
 | [],rs,_=>by show rs.length≤_;lia
 | t::ts,rs,hf=>by
  have h1:=ix ts (f (rests t os) rs).2 fun t' h'=>hf t' (List.mem_cons_of_mem _ h')
  have h2:=hf t List.mem_cons_self rs
  show(aP f os ts (f (rests t os) rs).2).2.length≤_
  rw[List.map_cons,List.sum_cons]
  lia
theorem jE (n:Nat) (g:Int->Nat):∀ts:List Int,(ts.map fun t=>g t*n).sum=(ts.map g).sum*n
 | []=>by simp
 | t::ts=>by rw[List.map_cons,List.map_cons,List.sum_cons,List.sum_cons,jE n g ts,Nat.add_mul]
theorem gq:∀(n:Nat) (os:aq) (rs:List Room),os≠[]->(lay n os rs).2.length≤rs.length+os.length*n
 | 0,_,rs,_=>by show rs.length≤_;lia
 | n+1,os,rs,ne=>by
  have h1:=ix (f:=lay n) (os:=os) (b:=fun t=>(rests t os).length*n) (heads os) rs fun t ht rs=>by
   obtain⟨_,r,hr⟩:=bJ.mp ht
   exact gq n (rests t os) rs fun e=>by
    have:=aV.mpr hr
    rw[e] at this
    cases this
  rw[jE n (fun t=>(rests t os).length)] at h1
  have nd:(heads os).Nodup:=(cK os).imp fun h e=>absurd h (by rw[e];lia)
  have h2:=Nat.mul_le_mul_right n (gp (heads os) os nd)
  have h3:=pY (aP (lay n) os (heads os) rs).2 (aP (lay n) os (heads os) rs).1
  have h4:0<os.length:=List.length_pos_iff.mpr ne
  show(keep _ _).2.length≤_
  rw[Nat.mul_succ]
  lia
end Bk
namespace Bk
open Mx
def atP (p:Nat) (o:List Int):Int:=(o[p]?).getD 0
def jd (p:Nat) (g:List (Int×aq)) (o:List Int):List (Int×aq):=
 if atP p o∈g.map (·.1) then g.map (fun e=>if e.1=atP p o then (e.1,e.2++[o]) else e) else g++[(atP p o,[o])]
structure Grp (p:Nat) (os:aq) (g:List (Int×aq)):Prop where
 nd:(g.map (·.1)).Nodup
 each:∀e∈g,e.2=os.filter fun o=>decide (atP p o=e.1)
 all:∀o∈os,atP p o∈g.map (·.1)
 one:∀e∈g,e.2≠[]
theorem Grp.nil (p:Nat):Grp p [] []:=⟨List.nodup_nil,(fun e h=>nomatch h),(fun o h=>nomatch h),(fun e h=>nomatch h)⟩
theorem Grp.add {p:Nat}{os:aq}{g:List (Int×aq)}(G:Grp p os g) (o:List Int):Grp p (os++[o]) (jd p g o):=by
 unfold jd
 by_cases c:atP p o∈g.map (·.1)
 ·rw[if_pos c]
  have keys:(g.map (fun e=>if e.1=atP p o then (e.1,e.2++[o]) else e)).map (·.1)=g.map (·.1):=by
   rw[List.map_map]
   refine List.map_congr_left fun e _=>?_
   show(if e.1=atP p o then (e.1,e.2++[o]) else e).1=e.1
   split <;> rfl
  refine⟨by rw[keys];exact G.nd,fun e he=>?_,fun x hx=>?_,fun e he=>?_⟩
  ·obtain⟨e0,h0,rfl⟩:=List.mem_map.mp he
   rw[List.filter_append]
   by_cases k:e0.1=atP p o
   ·rw[if_pos k,G.each e0 h0]
    simp[k]
   ·rw[if_neg k,G.each e0 h0]
    simp[Ne.symm k]
  ·rw[keys]
   rcases List.mem_append.mp hx with h|h
   ·exact G.all x h
   ·rw[List.mem_singleton.mp h];exact c
  ·obtain⟨e0,h0,rfl⟩:=List.mem_map.mp he
   by_cases k:e0.1=atP p o
   ·rw[if_pos k];simp
   ·rw[if_neg k];exact G.one e0 h0
 ·rw[if_neg c]
  refine⟨?_,fun e he=>?_,fun x hx=>?_,fun e he=>?_⟩
  ·rw[List.map_append,List.nodup_append]
   exact⟨G.nd,by simp,fun x hx y hy=>by
    have:y=atP p o:=by simpa using hy
    rw[this]
    rintro rfl
    exact c hx⟩
  ·rw[List.filter_append]
   rcases List.mem_append.mp he with h|h
   ·have k:¬atP p o=e.1:=fun k=>c (by rw[k];exact List.mem_map.mpr ⟨e,h,rfl⟩)
    rw[G.each e h]
    simp[k]
   ·rw[List.mem_singleton.mp h]
    have:os.filter (fun x=>decide (atP p x=atP p o))=[]:=List.filter_eq_nil_iff.mpr fun x hx hk=>c (by
     have:=G.all x hx
     rw[of_decide_eq_true hk] at this
     exact this)
    rw[this]
    simp
  ·rw[List.map_append]
   rcases List.mem_append.mp hx with h|h
   ·exact List.mem_append_left _ (G.all x h)
   ·rw[List.mem_singleton.mp h];exact List.mem_append_right _ (by simp)
  ·rcases List.mem_append.mp he with h|h
   ·exact G.one e h
   ·rw[List.mem_singleton.mp h];simp
def bD (p:Nat) (os:aq):List (Int×aq):=os.foldl (jd p) []
theorem dR (p:Nat) (os:aq) (o:List Int):bD p (os++[o])=jd p (bD p os) o:=by unfold bD;rw[List.foldl_append];rfl
theorem lZ {α:Type}{P:List α->Prop}(h0:P []) (h1:∀l x,P l->P (l++[x])) (l:List α):P l:=by
 have:∀l:List α,P l.reverse:=fun l=>by
  induction l with
  | nil=>exact h0
  | cons x l ih=>rw[List.reverse_cons];exact h1 _ _ ih
 have:=this l.reverse
 rw[List.reverse_reverse] at this
 exact this
theorem eG (p:Nat) (os:aq):Grp p os (bD p os):=
 lZ (P:=fun os=>Grp p os (bD p os)) (Grp.nil p) (fun l x ih=>by rw[dR];exact ih.add x) os
theorem rn (p:Nat) (os:aq):(os.map (atP p)).Pairwise (·≤·)->((bD p os).map (·.1)).Pairwise (· < ·):=by
 refine lZ (P:=fun os=>(os.map (atP p)).Pairwise (·≤·)->((bD p os).map (·.1)).Pairwise (· < ·)) (fun _=>List.Pairwise.nil) (fun l x ih h=>?_) os
 rw[List.map_append,List.pairwise_append] at h
 obtain⟨h1,_,h3⟩:=h
 rw[dR]
 unfold jd
 by_cases c:atP p x∈(bD p l).map (·.1)
 ·rw[if_pos c,List.map_map]
  have keys:((fun e:Int×aq=>e.1)∘fun e:Int×aq=>if e.1=atP p x then (e.1,e.2++[x]) else e)=fun e=>e.1:=by
   funext e
   show(if e.1=atP p x then (e.1,e.2++[x]) else e).1=e.1
   split <;> rfl
  rw[keys]
  exact ih h1
 ·rw[if_neg c,List.map_append,List.pairwise_append]
  refine⟨ih h1,by simp,fun a ha b hb=>?_⟩
  have eb:b=atP p x:=by simpa using hb
  subst eb
  obtain⟨e,he,rfl⟩:=List.mem_map.mp ha
  have G:=eG p l
  obtain⟨o,ho⟩:=List.exists_mem_of_ne_nil _ (G.one e he)
  rw[G.each e he] at ho
  obtain⟨ho1,ho2⟩:=List.mem_filter.mp ho
  have le:=h3 (atP p o) (List.mem_map.mpr ⟨o,ho1,rfl⟩) (atP p x) (by simp)
  rw[of_decide_eq_true ho2] at le
  have:e.1≠atP p x:=fun z=>c (z▸ha)
  lia
end Bk
namespace Bk
open Mx
theorem ni {f:aq->List Room->Nat×List Room}{os:aq}{t:Int}:∀(ts:List Int) (rs:List Room),aP f os (ts++[t]) rs=((aP f os ts rs).1++[(t,((f (rests t os) (aP f os ts rs).2).1:Int))],(f (rests t os) (aP f os ts rs).2).2)
 | [],rs=>rfl
 | t'::ts,rs=>by
  show((t',_)::(aP f os (ts++[t]) _).1,(aP f os (ts++[t]) _).2)=_
  rw[ni ts]
  rfl
theorem fb {p:Nat}{o:List Int}(h:p<o.length):o.drop p=atP p o::o.drop (p+1):=by
 rw[List.drop_eq_getElem_cons h]
 unfold atP
 rw[List.getElem?_eq_getElem h]
 rfl
theorem jU {p:Nat}{t:Int}:∀{os:aq},(∀o∈os,p<o.length)->(os.filter fun o=>decide (atP p o=t)).map (List.drop (p+1))=rests t (os.map (List.drop p))
 | [],_=>rfl
 | o::os,h=>by
  have ih:=jU (t:=t) (os:=os) fun o' h'=>h o' (List.mem_cons_of_mem _ h')
  have ho:=h o List.mem_cons_self
  unfold rests at ih ⊢
  rw[List.map_cons,List.filterMap_cons,fb ho]
  by_cases c:atP p o=t
  ·rw[List.filter_cons_of_pos (by simpa using c),List.map_cons,ih]
   have:fJ t (atP p o::o.drop (p+1))=some (o.drop (p+1)):=if_pos c
   rw[this]
  ·rw[List.filter_cons_of_neg (by simpa using c),ih]
   have:fJ t (atP p o::o.drop (p+1))=none:=if_neg c
   rw[this]
theorem sv:∀{a b:List Int},a.Pairwise (· < ·)->b.Pairwise (· < ·)->(∀x,x∈a↔x∈b)->a=b
 | [],[],_,_,_=>rfl
 | [],y::b,_,_,h=>absurd ((h y).mpr List.mem_cons_self) (fun z=>nomatch z)
 | x::a,[],_,_,h=>absurd ((h x).mp List.mem_cons_self) (fun z=>nomatch z)
 | x::a,y::b,ha,hb,h=>by
  rw[List.pairwise_cons] at ha hb
  have e:x=y:=by
   have h1:=(h x).mp List.mem_cons_self
   have h2:=(h y).mpr List.mem_cons_self
   rcases List.mem_cons.mp h1 with h1|h1
   ·exact h1
   rcases List.mem_cons.mp h2 with h2|h2
   ·exact h2.symm
   have:=hb.1 x h1
   have:=ha.1 y h2
   lia
  subst e
  rw[sv ha.2 hb.2 fun z=>⟨fun hz=>by
   rcases List.mem_cons.mp ((h z).mp (List.mem_cons_of_mem _ hz)) with e|e
   ·have:=ha.1 z hz;lia
   ·exact e,fun hz=>by
   rcases List.mem_cons.mp ((h z).mpr (List.mem_cons_of_mem _ hz)) with e|e
   ·have:=hb.1 z hz;lia
   ·exact e⟩]
structure OrdsOk (p n:Nat) (os:aq):Prop where
 ne:os≠[]
 len:∀o∈os,o.length=p+n
 things:∀o∈os,∀x∈o,0≤x∧x<8
 rise:os.Pairwise fun a b=>¬lt (b.drop p) (a.drop p)
section
variable {p n:Nat}{os:aq}
theorem OrdsOk.at_le (ok:OrdsOk p (n+1) os):(os.map (atP p)).Pairwise (·≤·):=by
 rw[List.pairwise_map]
 refine ok.rise.imp_of_mem fun {a b} ha hb h=>?_
 have la:=ok.len a ha
 have lb:=ok.len b hb
 rw[fb (show p<a.length by lia),fb (show p<b.length by lia)] at h
 refine Int.not_lt.mp fun z=>h ?_
 exact .inl z
theorem OrdsOk.keys (ok:OrdsOk p (n+1) os):(bD p os).map (·.1)=heads (os.map (List.drop p)):=by
 refine sv (rn p os ok.at_le) (cK _) fun t=>?_
 have G:=eG p os
 rw[bJ]
 constructor
 ·intro h
  obtain⟨e,he,rfl⟩:=List.mem_map.mp h
  obtain⟨o,ho⟩:=List.exists_mem_of_ne_nil _ (G.one e he)
  rw[G.each e he] at ho
  obtain⟨h1,h2⟩:=List.mem_filter.mp ho
  have lo:=ok.len o h1
  have e1:=fb (show p<o.length by lia)
  have e2:atP p o=e.1:=of_decide_eq_true h2
  rw[e2] at e1
  have mem:e.1∈o:=List.mem_of_mem_drop (i:=p) (by rw[e1];exact List.mem_cons_self)
  exact⟨ok.things o h1 _ mem,o.drop (p+1),List.mem_map.mpr ⟨o,h1,e1⟩⟩
 ·rintro⟨_,r,hr⟩
  obtain⟨o,ho,e⟩:=List.mem_map.mp hr
  have lo:=ok.len o ho
  rw[fb (show p<o.length by lia)] at e
  have e2:atP p o=t:=(List.cons.inj e).1
  rw[←e2]
  exact G.all o ho
theorem OrdsOk.group (ok:OrdsOk p (n+1) os) {e:Int×aq}(he:e∈bD p os):OrdsOk (p+1) n e.2∧e.2.map (List.drop (p+1))=rests e.1 (os.map (List.drop p))∧e.2.length≤os.length:=by
 have G:=eG p os
 have ee:=G.each e he
 have sub:∀o∈e.2,o∈os∧atP p o=e.1:=fun o ho=>by
  rw[ee] at ho
  obtain⟨h1,h2⟩:=List.mem_filter.mp ho
  exact⟨h1,of_decide_eq_true h2⟩
 refine⟨⟨G.one e he,fun o ho=>by have:=ok.len o (sub o ho).1;lia,fun o ho=>ok.things o (sub o ho).1,?_⟩,?_,?_⟩
 ·have r1:e.2.Pairwise fun a b=>¬lt (b.drop p) (a.drop p):=by rw[ee];exact ok.rise.sublist (List.filter_sublist)
  refine r1.imp_of_mem fun {a b} ha hb h=>?_
  have la:=ok.len a (sub a ha).1
  have lb:=ok.len b (sub b hb).1
  rw[fb (show p<a.length by lia),fb (show p<b.length by lia),(sub a ha).2,(sub b hb).2] at h
  exact fun z=>h (.inr ⟨rfl,z⟩)
 ·rw[ee]
  exact jU fun o ho=>by have:=ok.len o ho;lia
 ·rw[ee]
  exact List.length_filter_le _ _
end
end Bk
namespace Bk
open Mx
theorem p8 {rs:List Room}(wf:WF rs) (mk:MOk rs):∀(n k:Nat),k≤n->1≤k->k<rs.length+2->∀o∈sem rs k,o.Nodup∧∀x,x∈o↔0≤x∧(msk rs k).testBit x.toNat=true
 | 0,k,h,h1,_=>by lia
 | n+1,k,h,h1,hk=>by
  by_cases c:k=1
  ·subst c
   intro o ho
   rw[gU] at ho
   rw[List.mem_singleton.mp ho,se]
   refine⟨List.nodup_nil,fun x=>⟨(fun h=>nomatch h),fun h=>?_⟩⟩
   rw[Nat.zero_testBit] at h
   cases h.2
  ·obtain⟨r,e,ok,es⟩:=kY wf (show 2≤k by lia) hk
   intro o ho
   rw[es] at ho
   obtain⟨d,hd,ho⟩:=List.mem_flatMap.mp ho
   obtain⟨o',ho',rfl⟩:=List.mem_map.mp ho
   have ah:=ok.ahead d hd
   obtain⟨m1,m2,m3,m4⟩:=mk _ _ e d hd
   obtain⟨q1,q2⟩:=p8 wf mk n d.2.toNat (by lia) (by lia) (by lia) o' ho'
   rw[show k-2+2=k by lia] at m4
   have hn:d.1∉o':=fun z=>by
    have:=((q2 d.1).mp z).2
    rw[m3] at this
    cases this
   refine⟨List.nodup_cons.mpr ⟨hn,q1⟩,fun x=>?_⟩
   rw[←m4,List.mem_cons,q2 x,Nat.testBit_or,Nat.testBit_two_pow]
   constructor
   ·rintro(rfl|⟨x0,xb⟩)
    ·exact⟨m1,by simp⟩
    ·exact⟨x0,by rw[xb];simp⟩
   ·rintro⟨x0,xb⟩
    rcases Bool.or_eq_true_iff.mp xb with xb|xb
    ·have:=of_decide_eq_true xb
     exact .inl (by lia)
    ·exact .inr ⟨x0,xb⟩
theorem zH {rs:List Room}(wf:WF rs) (mk:MOk rs) {many k:Nat}(h1:1≤k) (hk:k<rs.length+2) (hm:msk rs k=2 ^ many-1):∀o∈sem rs k,o.Perm (aY many):=fun o ho=>by
 obtain⟨q1,q2⟩:=p8 wf mk k k (Nat.le_refl _) h1 hk o ho
 refine(List.perm_ext_iff_of_nodup q1 (kM _)).mpr fun x=>?_
 rw[q2 x,hm,cL,Nat.testBit_two_pow_sub_one]
 constructor
 ·rintro⟨a,b⟩
  have:=of_decide_eq_true b
  exact⟨a,by lia⟩
 ·rintro⟨a,b⟩
  exact⟨a,by simp;lia⟩
end Bk
namespace L2
open PySem PySem.Spec PyProof.Rows
theorem tY {t m:Nat}(h:m.testBit t=true):2 ^ t &&& m=2 ^ t:=by
 refine Nat.eq_of_testBit_eq fun i=>?_
 rw[Nat.testBit_and,Nat.testBit_two_pow]
 by_cases e:t=i
 ·subst e;rw[h];simp
 ·simp[e]
end L2
namespace Ord
open PySem L2 Mx
section
variable {P:Program}{w:World}{K:W.Frag}{mg:Str->Option Value}{base:Heap}{CO CB:Addr}
def lq (K:W.Frag) (CB:Addr):Sp:=fun vs H Q E=>∃(x:V) (l:Addr) (ms:List Nat) (d:Int×Int),vs=[x,.ref l]∧dU K H x d∧SqL K H l (dW ms)∧0≤d.1∧d.1<8∧0≤d.2∧d.2<ms.length∧
 ((ms.getD d.2.toNat 0).testBit d.1.toNat=false->Q (.int ((Bk.bN ms d:Nat):Int)) H)∧((ms.getD d.2.toNat 0).testBit d.1.toNat=true->E (.ref CB) none H)
theorem rq {f:Addr}{fd:FuncData}(F:Fun K "things_through" "things_through" j6 f fd) (BB:OwnX K mg "BadBook" CB):FnOk P w K mg base (CX1 P w) 1 f fd ["door","things"] (lq K CB):=by
 refine F.okX i9 (fun vs H Q E h=>?_) (fun X cdv A outer s H vs Q E hX hp hra hr h=>?_)
 ·obtain⟨x,l,ms,d,rfl,_⟩:=h
  rfl
 obtain⟨x,l,ms,⟨t,k⟩,rfl,⟨p,rfl,q⟩,hl,t0,t8,k0,kl,zg,zb⟩:=h
 subst hX
 refine⟨_,af (ay (i:=2) i9.nd rfl (Or.inl rfl) (aA uH ao (pxT K (pv 0) ao)))
  (af (ay (i:=3) i9.nd rfl (Or.inl rfl) (bT (show IxR _ (dJ K) from bA) (pv 1) (pxT K (pv 0) ao) (fun _ _=>rfl)))
  (af (aQ (oA (aA Ao (pv 2) (pv 3)) (fun _=>rfl)) (ai (bp rfl rfl BB hra (ac aE ae))) aB)
  (ai (aL (aA Dt (pv 2) (pv 3)))))),?_⟩
 refine⟨_,rfl,p,_,0,.int t,rfl,rfl,q,eQ,1,t,rfl,rfl,⟨t0,by lia,by decide⟩,?_⟩
 refine⟨_,rfl,_,rfl,p,_,1,.int k,rfl,rfl,q,lW,l,_,k,.int ((ms.getD k.toNat 0:Nat):Int),rfl,rfl,hl,?_,?_⟩
 ·have hk:k.toNat<ms.length:=by show k.toNat<ms.length;have:k<ms.length:=kl;have:0≤k:=k0;lia
  have:=pT hk
  rw[show((k.toNat:Nat):Int)=k from Int.toNat_of_nonneg k0] at this
  exact this
 have e1:(1:Int)*2 ^ t.toNat=((2 ^ t.toNat:Nat):Int):=by simp
 refine⟨_,rfl,_,rfl,_,_,rfl,rfl,_,rfl,?_⟩
 by_cases hb:(ms.getD k.toNat 0).testBit t.toNat=true
 ·rw[e1,kZ,tY hb]
  have e2:(((2 ^ t.toNat:Nat):Int) != 0)=true:=by
   have:0<2 ^ t.toNat:=Nat.two_pow_pos _
   exact bne_iff_ne.mpr (by lia)
  rw[e2]
  exact aG ⟨by show 1≤sizeLine;decide,zb hb⟩
 have hb:(ms.getD k.toNat 0).testBit t.toNat=false:=Bool.eq_false_iff.mpr hb
 rw[e1,kZ,tU hb]
 refine aO ?_
 refine⟨_,rfl,_,rfl,_,_,rfl,rfl,?_⟩
 show Q (V.int (Builtin.bitOr (1*2 ^ t.toNat) ((ms.getD k.toNat 0:Nat):Int))) H
 rw[e1,vE]
 exact zg hb
def jF (many:Nat) (ms:List Nat) (first:Int):Prop:=first=0∨(1<first∧first<ms.length∧ms.getD first.toNat 0=2 ^ many-1)
def qc (K:W.Frag) (CB:Addr):Sp:=fun vs H Q E=>∃(many:Nat) (first:Int) (l:Addr) (ms:List Nat),vs=[.int many,.ref l,.int first]∧SqL K H l (dW ms)∧many≤8∧(jF many ms first->Q .non H)∧(¬jF many ms first->E (.ref CB) none H)
theorem vH {f:Addr}{fd:FuncData}(F:Fun K "look_first" "look_first" pQ f fd) (T:TxB K mg CO) (BB:OwnX K mg "BadBook" CB):FnOk P w K mg base (CX1 P w) 1 f fd ["many","things","first"] (qc K CB):=by
 refine F.okX zF (fun vs H Q E h=>?_) (fun X cdv A outer s H vs Q E hX hp hra hr h=>?_)
 ·obtain⟨many,first,l,ms,rfl,_⟩:=h
  rfl
 obtain⟨many,first,l,ms,rfl,ql,m8,zg,zb⟩:=h
 subst hX
 obtain⟨t0,m0⟩:=T.no
 obtain⟨t1,m1⟩:=T.en
 refine⟨_,af (aQ (aI dz (pv 2) (bj (v:=.int 0) rfl m0 ⟨t0,rfl⟩) (aM _)) (ai lI) aB)
  (af (aQ (bV (hR jl jl (bj (v:=.int 1) rfl m1 ⟨t1,rfl⟩) (pv 2) (aw aN rfl T.t.len bM (ac (pv 1) ae)))) (ai (bp rfl rfl BB hra (ac aE ae))) aB)
  (ai (aQ (aI fm (bT (show IxR _ (dJ K) from bA) (pv 1) (pv 2) (fun _ _=>rfl)) (aA uG (aA uH ao (pv 0)) ao) (aM _)) (ai (bp rfl rfl BB hra (ac aE ae))) aB))),?_⟩
 refine⟨_,rfl,rfl,_,rfl,?_⟩
 by_cases c:first=0
 ·subst c
  exact aG (zg (.inl rfl))
 rw[decide_eq_false (fun h=>c (by have:=V.int.inj h;lia))]
 refine aO ?_
 refine⟨_,rfl,1,first,rfl,rfl,_,rfl,?_⟩
 have hl:(dW ms).length=ms.length:=List.length_map _
 by_cases c1:1<first
 case neg=>
  rw[decide_eq_false c1]
  exact aO ⟨_,rfl,aG ⟨by show 1≤sizeLine;decide,zb fun h=>h.elim c fun h=>c1 h.1⟩⟩
 rw[decide_eq_true c1]
 refine aG ⟨_,rfl,l,_,rfl,.inl ql,first,_,rfl,rfl,_,rfl,?_⟩
 rw[hl]
 by_cases c2:first<(ms.length:Nat)
 case neg=>
  rw[decide_eq_false c2]
  exact aG ⟨by show 1≤sizeLine;decide,zb fun h=>h.elim c fun h=>c2 h.2.1⟩
 rw[decide_eq_true c2]
 refine aO ?_
 have f2:first.toNat<ms.length:=by lia
 have fe:((first.toNat:Nat):Int)=first:=Int.toNat_of_nonneg (by lia)
 refine⟨_,rfl,_,rfl,l,_,first,_,rfl,rfl,ql,by have:=pT f2;rw[fe] at this;exact this,?_⟩
 refine⟨_,rfl,1,(many:Int),rfl,rfl,⟨by lia,by lia,by decide⟩,_,1,rfl,rfl,rfl,_,rfl,?_⟩
 have e1:(1:Int)*2 ^ ((many:Int)).toNat-1=((2 ^ many-1:Nat):Int):=by
  rw[Int.toNat_natCast,Int.one_mul,Int.natCast_sub (Nat.one_le_two_pow)]
  simp
 show(fun(b:Bool) (H1:Hp)=>if b=true then _ else _) (!decide (V.int ((ms.getD first.toNat 0:Nat):Int)=V.int (1*2 ^ ((many:Int)).toNat-1))) H
 rw[e1]
 by_cases c3:ms.getD first.toNat 0=2 ^ many-1
 ·rw[c3,decide_eq_true rfl]
  exact aO (zg (.inr ⟨c1,c2,c3⟩))
 ·rw[decide_eq_false fun h=>c3 (by have:=V.int.inj h;exact Int.ofNat.inj this)]
  exact aG ⟨by show 1≤sizeLine;decide,zb fun h=>h.elim c fun h=>c3 h.2.2⟩
def qe (K:W.Frag) (CB:Addr):Sp:=fun vs H Q E=>∃(x:V) (many:Int) (rs:List Bk.Room) (first:Int),vs=[x]∧BookA K H x many rs first∧((1≤many∧many≤8)->Q .non H)∧(¬(1≤many∧many≤8)->E (.ref CB) none H)
theorem vI {f:Addr}{fd:FuncData}(F:Fun K "look_parts" "look_parts" pR f fd) (T:TxB K mg CO) (BB:OwnX K mg "BadBook" CB) (W:Df P w K mg base CX0 1 "is_whole" ["value"] gO) (WC:Df P w K mg base CX0 2 "is_count" ["many"] lQ):FnOk P w K mg base (CX1 P w) 3 f fd ["book"] (qe K CB):=by
 refine F.okX zE (fun vs H Q E h=>?_) (fun X cdv A outer s H vs Q E hX hp hra hr h=>?_)
 ·obtain⟨x,many,rs,first,rfl,_⟩:=h
  rfl
 obtain⟨x,many,rs,first,rfl,⟨b,l,xs,rfl,q,ql,pr⟩,zg,zb⟩:=h
 subst hX
 refine⟨_,af (aQ (PW.pt (fG (bV (cA (aw bG rfl T.t.isi cM (ac (pv 0) (ac (eA (v:=.ty "tuple") rfl T.t.tuple eE rfl) ae)))))
    (fN (aI fm (aw aN rfl T.t.len bM (ac (pv 0) ae)) ao (aM _))))) (ai bn) aB)
  (af (aQ (bV (cA (aF WC hr rfl pS (ac (pxT K (pv 0) ao) ae)))) (ai (bp rfl rfl BB hra (ac aE ae))) aB)
  (af (aQ (bV (cA (aw bG rfl T.t.isi cM (ac (pxT K (pv 0) ao) (ac (eA (v:=.ty "list") rfl T.t.list kP rfl) ae))))) (ai bn) aB)
  (ai (aQ (bV (cA (aF W (hr.mono (by decide)) rfl pS (ac (pxT K (pv 0) ao) ae)))) (ai bn) aB)))),?_⟩
 refine⟨_,rfl,_,_,_,_,_,rfl,rfl,.tup q,kL,_,rfl,aO ?_⟩
 refine⟨_,rfl,b,_,rfl,.inr q,rfl,_,rfl,aO ?_⟩
 refine⟨_,rfl,b,_,0,.int many,rfl,rfl,q,eQ,many,rfl,_,rfl,?_⟩
 by_cases c:1≤many∧many≤8
 case neg=>
  rw[decide_eq_false c]
  exact aG ⟨by show 1≤sizeLine;decide,zb c⟩
 rw[decide_eq_true c]
 refine aO ?_
 refine⟨_,rfl,b,_,1,.ref l,rfl,rfl,q,lW,_,_,_,_,_,rfl,rfl,.lst ql,AG,_,rfl,aO ?_⟩
 exact⟨_,rfl,b,_,2,.int first,rfl,rfl,q,A2,first,rfl,_,rfl,aO (zg c)⟩
def fD (l:Bk.Room):Int:=match l.getLast? with
 | some d=>d.1
 | none=>-1
structure DOk (many number:Int) (l:Bk.Room):Prop where
 rise:(l.map (·.1)).Pairwise (· < ·)
 all:∀d∈l,0≤d.1∧d.1<many∧1≤d.2∧d.2<number
theorem gF (l:Bk.Room) (d:Int×Int):fD (l++[d])=d.1:=by simp[fD]
theorem DOk.last {many number:Int}{l:Bk.Room}(D:DOk many number l):-1≤fD l∧∀d∈l,d.1≤fD l:=by
 rcases List.eq_nil_or_concat l with rfl|⟨l',e,rfl⟩
 ·exact⟨Int.le_refl _,fun d hd=>nomatch hd⟩
 ·rw[List.concat_eq_append,gF]
  have:=(D.all e (by simp)).1
  refine⟨by lia,fun d hd=>?_⟩
  have r:=D.rise
  rw[List.concat_eq_append,List.map_append,List.pairwise_append] at r
  rcases List.mem_append.mp hd with h|h
  ·exact Int.le_of_lt (r.2.2 d.1 (List.mem_map.mpr ⟨d,h,rfl⟩) e.1 (by simp))
  ·rw[List.mem_singleton.mp h];exact Int.le_refl _
theorem DOk.snoc {many number:Int}{l:Bk.Room}{d:Int×Int}:DOk many number (l++[d])↔DOk many number l∧(fD l<d.1∧d.1<many)∧1≤d.2∧d.2<number:=by
 constructor
 ·rintro⟨r,a⟩
  rw[List.map_append,List.pairwise_append] at r
  have D:DOk many number l:=⟨r.1,fun e he=>a e (List.mem_append_left _ he)⟩
  have ad:=a d (by simp)
  refine⟨D,⟨?_,ad.2.1⟩,ad.2.2⟩
  rcases List.eq_nil_or_concat l with rfl|⟨l',e,rfl⟩
  ·show(-1:Int)<d.1
   lia
  ·rw[List.concat_eq_append,gF]
   exact r.2.2 e.1 (List.mem_map.mpr ⟨e,by simp,rfl⟩) d.1 (by simp)
 ·rintro⟨D,⟨h1,h2⟩,h3⟩
  obtain⟨g1,g2⟩:=D.last
  refine⟨?_,fun e he=>?_⟩
  ·rw[List.map_append,List.pairwise_append]
   refine⟨D.rise,List.pairwise_singleton _ _,fun a ha b hb=>?_⟩
   obtain⟨e,he,rfl⟩:=List.mem_map.mp ha
   have:b=d.1:=by simpa using hb
   rw[this]
   exact Int.lt_of_le_of_lt (g2 e he) h1
  ·rcases List.mem_append.mp he with h|h
   ·exact D.all e h
   ·rw[List.mem_singleton.mp h]
    exact⟨by lia,h2,h3⟩
theorem DOk.take {many number:Int}{l:Bk.Room}(D:DOk many number l) (i:Nat):DOk many number (l.take i):=⟨by rw[List.map_take];exact D.rise.sublist (List.take_sublist _ _),fun d hd=>D.all d (List.mem_of_mem_take hd)⟩
def qf (K:W.Frag) (CB:Addr):Sp:=fun vs H Q E=>∃(many number:Int) (x:V) (r:Bk.Room),vs=[.int many,x,.int number]∧bg K H x r∧Fit number∧((r≠[]∧DOk many number r)->Q .non H)∧(¬(r≠[]∧DOk many number r)->E (.ref CB) none H)
theorem vJ {f:Addr}{fd:FuncData}(F:Fun K "look_doors" "look_doors" pP f fd) (T:TxB K mg CO) (BB:OwnX K mg "BadBook" CB) (WD:Df P w K mg base CX0 2 "is_door" ["door"] (sf K)):FnOk P w K mg base (CX1 P w) 3 f fd ["many","room","number"] (qf K CB):=by
 refine F.okX jD (fun vs H Q E h=>?_) (fun X cdv A outer s H vs Q E hX hp hra hr h=>?_)
 ·obtain⟨many,number,x,r,rfl,_⟩:=h
  rfl
 obtain⟨many,number,x,r,rfl,⟨a,xs,rfl,q,pr⟩,fit,zg,zb⟩:=h
 subst hX
 obtain⟨t1,m1⟩:=T.en
 refine⟨_,af (aQ (PW.pt (fG (bV (cA (aw bG rfl T.t.isi cM (ac (pv 1) (ac (eA (v:=.ty "tuple") rfl T.t.tuple eE rfl) ae)))))
    (fN (aI dz (aw aN rfl T.t.len bM (ac (pv 1) ae)) ao (aM _))))) (ai (bp rfl rfl BB hra (ac (eX (bh (cy (k:=100) (by decide)) (bh (gN (pv 2)) (bh (cy (k:=100) (by decide)) fT))) (by decide)) ae))) aB)
  (af (ay (i:=3) jD.nd rfl (Or.inl rfl) (sS oz ao))
  (ai (cZ (show PassesOwn _ _ _ _ from PassesOwn.leaving) rfl (gI (pv 1)) (bQ (i:=4) jD.nd rfl (Or.inl rfl))
   (af (aQ (bV (cA (aF WD hr rfl pS (ac (pv 4) ae)))) (ai bn) aB)
   (af (aQ (bV (hR jl jl (pv 3) (pxT K (pv 4) ao) (pv 0))) (ai (bp rfl rfl BB hra (ac (eX (bh (cy (k:=100) (by decide)) (bh (gN (pv 2)) (bh (cy (k:=100) (by decide)) fT))) (by decide)) ae))) aB)
   (af (aQ (bV (hR kC jl (bj (v:=.int 1) rfl m1 ⟨t1,rfl⟩) (pxT K (pv 4) ao) (pv 2))) (ai (bp rfl rfl BB hra (ac (eX (bh (cy (k:=100) (by decide)) (bh (gN (pv 2)) (bh (cy (k:=100) (by decide)) fT))) (by decide)) ae))) aB)
   (ai (ay (i:=3) jD.nd rfl (Or.inl rfl) (pxT K (pv 4) ao))))))))),?_⟩
 have msg:∀σ:St,σ[2]?=some (some (.int number))->¬(r≠[]∧DOk many number r)->(True∧isI (ox 2) σ H∧True∧True)∧∀x:Str,1≤sizeLine∧E (.ref CB) none H:=fun σ hσ h=>⟨⟨trivial,⟨_,hσ,rfl,number,rfl,fit⟩,trivial,trivial⟩,fun _=>⟨by decide,zb h⟩⟩
 refine⟨_,rfl,_,_,_,_,_,rfl,rfl,.tup q,kL,_,rfl,aO ?_⟩
 have hlen:=pr.length
 refine⟨_,rfl,a,_,rfl,.inr q,rfl,_,rfl,?_⟩
 by_cases ne:r=[]
 ·have h0:xs.length=0:=by rw[hlen,ne];rfl
  rw[h0,decide_eq_true (show V.int ((0:Nat):Int)=V.int 0 from rfl)]
  exact aG (msg _ rfl fun h=>h.1 ne)
 have hpos:0<xs.length:=by rw[hlen];exact List.length_pos_iff.mpr ne
 rw[decide_eq_false (fun h=>by have:=V.int.inj h;lia)]
 refine aO ?_
 refine⟨1,rfl,?_⟩
 refine⟨_,rfl,a,rfl,⟨_,q⟩,rE (K:=K) (a:=a) (xs:=xs) (fun i σ H2=>∃(v4:Option V),σ=[some (.int many),some (.ref a),some (.int number),some (.int (fD (r.take i))),v4]∧H2=H∧DOk many number (r.take i)) ⟨none,rfl,rfl,List.Pairwise.nil,fun d hd=>nomatch hd⟩ ?_ ?_ ?_⟩
 ·rintro i σ H2 _ ⟨v4,rfl,rfl,_⟩
  exact q
 ·rintro i y σ H2 hx ⟨v4,rfl,rfl,D⟩
  obtain⟨⟨dt,dk⟩,hd,p,rfl,qd⟩:=bR pr hx
  have et:=aR hd
  have bad:¬((fD (r.take i)<dt∧dt<many)∧1≤dk∧dk<number)->¬(r≠[]∧DOk many number r):=fun h g=>by
   have:=g.2.take (i+1)
   rw[et,DOk.snoc] at this
   exact h this.2
  refine⟨_,rfl,.ref p,(dt,dk),rfl,⟨p,rfl,qd⟩,_,rfl,aO ?_⟩
  refine⟨_,rfl,_,rfl,p,_,0,.int dt,rfl,rfl,qd,eQ,_,dt,rfl,rfl,_,rfl,?_⟩
  by_cases c1:fD (r.take i)<dt
  case neg=>
   rw[decide_eq_false c1]
   exact aO ⟨_,rfl,aG (msg _ rfl (bad fun h=>c1 h.1.1))⟩
  rw[decide_eq_true c1]
  refine aG ⟨_,rfl,dt,many,rfl,rfl,_,rfl,?_⟩
  by_cases c2:dt<many
  case neg=>
   rw[decide_eq_false c2]
   exact aG (msg _ rfl (bad fun h=>c2 h.1.2))
  rw[decide_eq_true c2]
  refine aO ?_
  refine⟨_,rfl,p,_,1,.int dk,rfl,rfl,qd,lW,1,dk,rfl,rfl,_,rfl,?_⟩
  by_cases c3:1≤dk
  case neg=>
   rw[decide_eq_false c3]
   exact aO ⟨_,rfl,aG (msg _ rfl (bad fun h=>c3 h.2.1))⟩
  rw[decide_eq_true c3]
  refine aG ⟨_,rfl,dk,number,rfl,rfl,_,rfl,?_⟩
  by_cases c4:dk<number
  case neg=>
   rw[decide_eq_false c4]
   exact aG (msg _ rfl (bad fun h=>c4 h.2.2))
  rw[decide_eq_true c4]
  refine aO ?_
  refine⟨_,rfl,p,_,0,.int dt,rfl,rfl,qd,eQ,some (.ref p),?_,rfl,?_⟩
  ·rw[et,gF]
   rfl
  ·rw[et]
   exact DOk.snoc.mpr ⟨D,⟨c1,c2⟩,c3,c4⟩
 ·rintro σ H2 ⟨v4,rfl,rfl,D⟩
  rw[hlen,List.take_length] at D
  exact zg ⟨ne,D⟩
end
end Ord
namespace L2
open PySem PySem.Spec PyProof.Rows
section
variable {M:Model}{A:Around}{E:Value->Shared->Prop}{s:Shared}
theorem nj {base:Heap}{env:Env}{outer:List Env}{L e:Addr}{cls a0 fl:Value}{Q:Unit->Shared->Prop}(fr:A.frames=some (env::outer)) (ff:s.heap.FunFrames base (env::outer)) (hf:env.frame=some L)
  (tr:s.heap.TracedAtW base e cls a0 fl) (kb:base.StaysIn s.heap) (en:base.get? e=none) (k:∀h',Heap.LeftW base (env::outer) e cls a0 s.heap h'->Q () { s with heap:=h' }):wpAny M A (leaving env (.ref e)) Q E s:=by
 by_cases c:fl=rawInt L
 ·subst c
  unfold leaving
  refine wpAny_bind (wpAny_noteFrame_againW hf tr ?_)
  exact wpAny_setFlight_noneW kb ff tr fun h' k1 k2 k3 k4=>k h' ⟨k1,k2,k3,fun b o hb hn=>⟨o.slots,k4 b o hb hn⟩⟩
 ·obtain⟨oe,vs,T,oT,ts,ge,⟨rfl,g0⟩,gd,g1,nT,Te,gT,gdT,g3⟩:=tr
  have oth:∀b,b≠T->(s.heap.update T (Obj.mapFields (·.setIfInBounds 3 Value.none))).get? b=s.heap.get? b:=fun b z=>Heap.get?_update_other _ _ (Ne.symm z)
  have nr:∀b o,s.heap.get? b=some o->(∀vs,o.data≠.fields vs)->b≠T:=fun b o hb n q=>by
   subst q
   rw[gT] at hb
   cases hb
   exact n ts gdT
  unfold leaving noteFrame
  simp only[hf]
  refine wpAny_bind (wpAny_bind (wpAny_field ge gd g1 ?_))
  rw[if_pos (by simp)]
  refine wpAny_bind (wpAny_field gT gdT g3 ?_)
  rw[if_neg (by simpa using c)]
  refine wpAny_bind (wpAny_setField gT gdT (Array.getElem?_eq_some_iff.mp g3).1 ?_)
  exact wpAny_newEntryW fr (ff.of_keeps fun b o hb n=>⟨o,(oth b (nr b o hb n)).trans hb,rfl⟩) hf ((oth e (Ne.symm Te)).trans ge)
   (fun b o z=>(oth b (by rintro rfl;rw[nT] at z;cases z)).trans (kb b o z)) en gd (Array.getElem?_eq_some_iff.mp g1).1 g0
   fun h' ⟨x1,x2,x3,x4⟩=>k h' ⟨x1,x2,x3,fun b o hb n=>x4 b o ((oth b (nr b o hb n)).trans hb) n⟩
end
section
variable {X:Cx}{aa:List (Addr×Obj)}{σ:St}{H₂:Hp}{s₂:Shared}{fp:List Addr}{C:Addr}{scope:Scope}{cl:List (Str×Addr)}{x:Str}
theorem nn {h'':Heap}{s':Shared}{H':Hp}{σ':St}{pn:List (Addr×Obj)}(I:Inv X aa σ H₂ s₂) (hfp:∀b∈fp,cW X aa H₂ b) (hC:s₂.heap.objs.size≤C)
  (J:Inv (cxC X scope cl x C s₂ H₂ fp aa) pn σ' H' s') (hs:Heap.SameBut C s'.heap h''):Inv X aa σ H' { s' with heap:=h'' }:=by
 have kp:∀b,b≠C->h''.get? b=s'.heap.get? b:=fun b hb=>hs.2 b hb
 have neC:∀b o,s₂.heap.get? b=some o->b≠C:=fun b o e=>Nat.ne_of_lt (Nat.lt_of_lt_of_le (Heap.lt_size e) hC)
 have trC:∀b u,H' b=some u->b≠C:=fun b u e z=>by
  have f:H' C=none:=J.free
  rw[z,f] at e;cases e
 have un:=J.base
 refine I.call' (ch:=fp) J.os ⟨fun b o e m hb hx=>?_,fun b o e m hb hx=>?_,fun b o e m hx=>un.free b o e m hx,fun b o e hx=>?_,fun b xs e=>un.tups b xs e,fun b o u e=>un.frzs b o u e,fun b ps e=>un.tbls b ps e⟩ ?_ J.bare (fun b hb=>?_)
 ·exact(kp b (neC b o e)).trans (un.keep b o e m hb hx)
 ·obtain⟨sl,q⟩:=un.slot b o e m hb hx
  exact⟨sl,(kp b (neC b o e)).trans q⟩
 ·obtain⟨o',q⟩:=un.there b o e hx
  exact⟨o',(kp b (neC b o e)).trans q⟩
 ·intro a o e
  refine(J.hok a o e).stay (fun b u hb q=>(kp b ?_).trans q) (fun b q=>q) fun b xs q=>q
  rcases hb with z|z
  ·rw[z];exact trC a o e
  ·exact trC b _ z
 ·obtain⟨_,h2,_,h4,h5,h6⟩:=hfp b hb
  exact⟨h4,h2,h5,h6⟩
end
def xeC (X:Cx) (C:Addr):Value->Shared->Prop:=notedBy (model X.prog X.w) X.A X.env fun e s'=>∃m,s'.heap.Ns C m∧∀h',Heap.SameBut C s'.heap h'->∀cenv:Env,cenv.locals=C->
 wpAny (model X.prog X.w) X.A (PySem.passOn "comprehension.variables-let-go" e cenv:Sem Value) (fun _ _=>False) X.xe { s' with heap:=h' }
section
variable {P:Program}{w:World}{K:W.Frag}{mg:Str->Option Value}{base:Heap}{N:List Str}{qual:Str}{sc:Scope}{f:Addr}{cd:Value}{A:Around}{outer:List Env}{s₁:Shared}{H₁:Hp}{E:XK}
 {aa:List (Addr×Obj)}{σ:St}{H₂:Hp}{s₂:Shared}{fp:List Addr}{C:Addr}{scope:Scope}{cl:List (Str×Addr)}{x:Str}
theorem nq (I2:Inv (bw (CX1 P w) P w K mg base N qual sc f cd A outer s₁ H₁ E) aa σ H₂ s₂) (f2:∀b∈fp,cW (bw (CX1 P w) P w K mg base N qual sc f cd A outer s₁ H₁ E) aa H₂ b) (hC:s₂.heap.objs.size≤C) :
  bI (CX1 P w) ((cxC (bw (CX1 P w) P w K mg base N qual sc f cd A outer s₁ H₁ E) scope cl x C s₂ H₂ fp aa).wish (xeC (bw (CX1 P w) P w K mg base N qual sc f cd A outer s₁ H₁ E) C)) (fun _=>E):=by
 generalize hX:bw (CX1 P w) P w K mg base N qual sc f cd A outer s₁ H₁ E=X at I2 f2
 intro pinsY σY H s e s' J0 hx
 have hex:X.ex=[]:=by rw[←hX];rfl
 have hso:X.stack=X.env::X.outer:=by rw[←hX];rfl
 have hfr:X.env.frame=some X.env.locals:=by rw[←hX];rfl
 have hpr:X.prog=P:=by rw[←hX];rfl
 have hw:X.w=w:=by rw[←hX];rfl
 have J:=J0.unwish
 obtain⟨ea,cls,n,H',rfl,ho,hg,un,hok,fl,hcx,q⟩:=hx
 have hok':HOk X.prog X.w H' s'.heap:=by rw[hpr,hw];exact hok
 have J':=J.call' (ch:=[]) ho un hok' hg (fun b z=>absurd z (by simp))
 obtain⟨T,trc,hT0,hTH⟩:=fl.tr
 have hCn:H' C=none:=J'.free
 obtain⟨mC,hmC,_⟩:=J'.loc
 obtain⟨mC0,hmC0,_⟩:=J.loc
 have Is:Inv X aa σ H s:=nn I2 f2 hC J (Heap.SameBut.refl _ _)
 have I':Inv X aa σ H' s':=nn I2 f2 hC J' (Heap.SameBut.refl _ _)
 have noex:∀b,b∉X.ex:=fun b z=>by rw[hex] at z;exact absurd z (by simp)
 have apart:∀b,s.heap.get? b=none->X.s₀.heap.get? b=none∧b≠X.env.locals∧(∀y c,X.env.cells.lookup y=some c->c≠b)∧∀p∈X.pn++aa,p.1≠b:=fun b hb=>by
  refine⟨?_,?_,fun y c hy z=>?_,fun p hp z=>?_⟩
  ·cases e1:X.s₀.heap.get? b with
   | none=>rfl
   | some o=>
    obtain⟨o',e2⟩:=Is.base.there b o e1 (noex b)
    rw[hb] at e2
    cases e2
  ·rintro rfl
   obtain⟨m,⟨o,_,_,e2,_⟩,_⟩:=Is.loc
   rw[hb] at e2
   cases e2
  ·obtain⟨v,o,e2,_⟩:=Is.cell y c hy
   rw[z,hb] at e2
   cases e2
  ·have e2:=(Is.pin p hp).1
   rw[z,hb] at e2
   cases e2
 have apC:X.s₀.heap.get? C=none∧C≠X.env.locals∧(∀y c,X.env.cells.lookup y=some c->c≠C)∧∀p∈X.pn++aa,p.1≠C:=by
  refine⟨?_,Nat.ne_of_gt (Nat.lt_of_lt_of_le I2.lt hC),fun y c hy=>?_,fun p hp=>?_⟩
  ·cases e1:X.s₀.heap.get? C with
   | none=>rfl
   | some o=>exact absurd (Nat.lt_of_lt_of_le (Heap.lt_size e1) (Nat.le_trans I2.sz hC)) (Nat.lt_irrefl _)
  ·obtain⟨v,z⟩:=I2.cell y c hy
   exact Nat.ne_of_lt (Nat.lt_of_lt_of_le z.lt hC)
  ·exact Nat.ne_of_lt (Nat.lt_of_lt_of_le (Heap.lt_size (I2.pin p hp).1) hC)
 have neC:∀b,s.heap.get? b=none->b≠C:=fun b hb z=>by
  obtain⟨o,_,_,e2,_⟩:=hmC0
  have e3:s.heap.get? C=some o:=e2
  rw[←z,hb] at e3
  cases e3
 have hch:∀b∈[ea,T,C],X.s₀.heap.get? b=none∧b≠X.env.locals∧(∀y c,X.env.cells.lookup y=some c->c≠b)∧∀p∈X.pn++aa,p.1≠b:=fun b hb=>by
  rcases List.mem_cons.mp hb with z|hb
  ·rw[z];exact apart ea fl.new
  rcases List.mem_cons.mp hb with z|hb
  ·rw[z];exact apart T hT0
  ·rw[List.mem_singleton.mp hb];exact apC
 have hchH:∀b∈[ea,T,C],H' b=none:=fun b hb=>by
  rcases List.mem_cons.mp hb with z|hb
  ·rw[z];exact fl.free
  rcases List.mem_cons.mp hb with z|hb
  ·rw[z];exact hTH
  ·rw[List.mem_singleton.mp hb];exact hCn
 have frC:∀b∈frs X.stack,b≠C:=fun b hb z=>by
  rcases List.mem_cons.mp (I2.stkSub b hb) with r|r
  ·exact apC.2.1 (z.symm.trans r)
  ·obtain⟨o,e1,_⟩:=fq I2 hb
   exact absurd (Nat.lt_of_lt_of_le (Heap.lt_size e1) hC) (by rw[z];exact Nat.lt_irrefl _)
 have hB:∀b∈[ea,T,C],(W.hideAll s'.heap (frs X.stack++[ea,T,C])).get? b=none:=fun b hb=>W.hideAll_none _ (List.mem_append_right _ hb)
 have hst:(W.hideAll s'.heap (frs X.stack++[ea,T,C])).StaysIn s'.heap:=fun b o z=>W.of_hideAll _ z
 have hff:s'.heap.FunFrames (W.hideAll s'.heap (frs X.stack++[ea,T,C])) X.stack:=W.funFrames_hide I'.stack fun env he a ha=>List.mem_append_left _ (List.mem_filterMap.mpr ⟨env,he,ha⟩)
 obtain⟨a0,tw⟩:=trc.traced (hB T (by simp))
 show xeC X C (.ref ea) s'
 unfold xeC notedBy
 refine wpAny_mono (hV (e:=ea) (p:=n=none) (E:=fun _ _=>False) (Q:=fun _ s2=>∃h4,s2={ s' with heap:=h4 }∧Heap.NotedW (W.hideAll s'.heap (frs X.stack++[ea,T,C])) (X.env::X.outer) ea cls a0 (rawInt X.env.locals) s'.heap h4) (fR _ _)
  (wpAny_noteFrame_onW (outer:=X.outer) (L:=X.env.locals) (hso▸I'.ok.frames) (hso▸hff) hfr tw hst (hB ea (by simp)) fun h4 hN4=>⟨h4,rfl,hN4⟩) hcx) (fun _ s2 z=>?_) (fun _ _ z=>z.1.elim)
 obtain⟨⟨h4,rfl,hN4⟩,c4⟩:=z
 obtain⟨n1,n2,n3,n4⟩:=hN4
 refine⟨mC,Heap.UpToSlots.ns n4 hmC,fun h5 hs5 cenv _=>?_⟩
 obtain⟨oe,vs,T4,oT,ts,ge,gc,gd,g1,nT,Te,gT,gdT,g3⟩:=n3
 obtain⟨oC,esC,epC,eC,dC,_⟩:=Heap.UpToSlots.ns n4 hmC
 have eaC:ea≠C:=neC ea fl.new
 have T4C:T4≠C:=fun z=>by
  rw[z] at gT
  have e2:h4.get? C=some oC:=eC
  rw[gT] at e2
  cases e2
  rw[gdT] at dC
  cases dC
 have ge5:h5.get? ea=some oe:=(hs5.2 ea eaC).trans ge
 have c5:n=none->Cx0 ea h5:=fun hn=>by
  obtain⟨o,vs,q1,q2,q3⟩:=c4 hn
  exact⟨o,vs,(hs5.2 ea eaC).trans q1,q2,q3⟩
 have gT5:h5.get? T4=some oT:=(hs5.2 T4 T4C).trans gT
 have sz3:3<ts.size:=(Array.getElem?_eq_some_iff.mp g3).1
 unfold PySem.passOn
 refine wpAny_bind (wpAny_field ge5 gd g1 ?_)
 rw[if_neg (by simp)]
 refine wpAny_bind ?_
 unfold setFlight
 refine wpAny_bind (wpAny_field ge5 gd g1 ?_)
 rw[if_pos (by simp)]
 refine wpAny_setField gT5 gdT sz3 ?_
 generalize hv:(cenv.frame.elim Value.none fun f=>rawInt f)=v
 generalize hh6:h5.update T4 (Obj.mapFields (·.setIfInBounds 3 v))=h6
 have c6:n=none->Cx0 ea h6:=fun hn=>by
  rw[←hh6]
  exact(c5 hn).update (fI (by decide))
 have oth:∀b,b≠T4->h6.get? b=h5.get? b:=fun b z=>by rw[←hh6];exact Heap.get?_update_other _ _ (Ne.symm z)
 have frT4:∀b∈frs X.stack,b≠T4:=fun b hb z=>by
  obtain⟨o,e1,nd⟩:=fq I' hb
  obtain⟨sl,e2⟩:=n4 b o e1 nd
  rw[z,gT] at e2
  cases e2
  exact nd ts gdT
 have keep6:∀b o,b∉frs X.stack->b∉[ea,T,C]->s'.heap.get? b=some o->h6.get? b=some o:=fun b o z1 z2 e1=>by
  have hb:=W.hideAll_get _ e1 fun m=>(List.mem_append.mp m).elim z1 z2
  have nb:b≠T4:=fun z=>by rw[z,nT] at hb;cases hb
  have nc:b≠C:=fun z=>z2 (by rw[z];simp)
  exact(oth b nb).trans ((hs5.2 b nc).trans (n1 b o hb))
 have slot6:∀b o,b∈frs X.stack->s'.heap.get? b=some o->∃sl,h6.get? b=some { o with slots:=sl }:=fun b o hb e1=>by
  obtain⟨o',e2,nd⟩:=fq I' hb
  rw[e1] at e2
  cases e2
  obtain⟨sl,e3⟩:=n4 b o e1 nd
  exact⟨sl,(oth b (frT4 b hb)).trans ((hs5.2 b (frC b hb)).trans e3)⟩
 have I6:Inv X aa σ H' { s' with heap:=h6 }:=I'.stepN (g':=s'.gens) (d':=s'.drawn) (t':=s'.toks) hch keep6 slot6 hex hso hchH I'.bare
 have nT4:H' T4=none∧X.s₀.heap.get? T4=none:=by
  by_cases z:T4∈frs X.stack++[ea,T,C]
  ·rcases List.mem_append.mp z with z|z
   ·exact absurd rfl (frT4 T4 z)
   ·exact⟨hchH T4 z,(hch T4 z).1⟩
  ·have e1:s'.heap.get? T4=none:=by
    cases e1:s'.heap.get? T4 with
    | none=>rfl
    | some o=>rw[W.hideAll_get _ e1 z] at nT;cases nT
   constructor
   ·cases e2:H' T4 with
    | none=>rfl
    | some o=>
     obtain⟨u,e3⟩:=kI (I'.hok T4 o e2)
     rw[e1] at e3
     cases e3
   ·cases e2:X.s₀.heap.get? T4 with
    | none=>rfl
    | some o=>
     obtain⟨o',e3⟩:=I'.base.there T4 o e2 (noex T4)
     rw[e1] at e3
     cases e3
 have hB6:∀b∈[ea,T4],(W.hideAll h6 (frs X.stack++[ea,T4])).get? b=none:=fun b hb=>W.hideAll_none _ (List.mem_append_right _ hb)
 have tr6:h6.TracedAtW (W.hideAll h6 (frs X.stack++[ea,T4])) ea cls a0 v:=by
  have up:h6.get? T4=some (oT.mapFields (·.setIfInBounds 3 v)):=by
   rw[←hh6]
   exact Heap.get?_update_self _ gT5 (Obj.isFreed_of_fields (Obj.data_mapFields gdT _))
  exact⟨oe,vs,T4,_,_,(oth ea (Ne.symm Te)).trans ge5,gc,gd,g1,hB6 T4 (by simp),Te,up,Obj.data_mapFields gdT _,by simp[sz3]⟩
 show wpAny _ _ (throw (Value.ref ea)) _ _ _
 refine wpAny_throw ?_
 subst hX
 refine wpAny_mono (hV (e:=ea) (p:=n=none) (E:=fun _ _=>False) (Q:=fun _ s2=>∃h7,s2={ s' with heap:=h7 }∧Heap.LeftW (W.hideAll h6 (frs (bw (CX1 P w) P w K mg base N qual sc f cd A outer s₁ H₁ E).stack++[ea,T4])) (envOfC qual sc s₁.heap.objs.size f cd::outer) ea cls a0 h6 h7) (hZ _ _)
  (nj (outer:=outer) (L:=s₁.heap.objs.size) I6.ok.frames (W.funFrames_hide I6.stack fun env he a ha=>List.mem_append_left _ (List.mem_filterMap.mpr ⟨env,he,ha⟩)) rfl tr6 (fun b o z=>W.of_hideAll _ z) (hB6 ea (by simp)) fun h7 hL=>⟨h7,rfl,hL⟩) c6) (fun _ s2 z=>?_) (fun _ _ z=>z.1.elim)
 obtain⟨⟨h7,rfl,hL⟩,c7⟩:=z
 obtain⟨k1,k2,k3,k4⟩:=hL
 exact jp (s:={ s' with heap:=h6 }) (l:=[ea,T4]) I6 rfl rfl
  (fun b hb=>by
   rcases List.mem_cons.mp hb with z|z
   ·rw[z];exact⟨fl.free,(hch ea (by simp)).1⟩
   ·rw[List.mem_singleton.mp z];exact nT4)
  fl.free (hch ea (by simp)).1 (fun b o z1 z2 e1=>k1 b o (W.hideAll_get _ e1 fun m=>(List.mem_append.mp m).elim z1 z2)) k4 k3 c7 q
end
section
variable {P:Program}{w:World}{K:W.Frag}{mg:Str->Option Value}{base:Heap}{N:List Str}{qual:Str}{sc:Scope}{f:Addr}{cd:Value}{A:Around}{outer:List Env}{s₁:Shared}{H₁:Hp}{E:XK}
 {X:Cx}{scope:Scope}{x:Str}{elt iter:Expr}{ifs:List Expr}{px pos:Pos}{wi:TI}{tt:TT}{te:TE}
theorem xF {i0:Nat}{y:Str}{py spos:Pos}(hX:X=bw (CX1 P w) P w K mg base N qual sc f cd A outer s₁ H₁ E) (hN:X.N.Nodup) (hi0:X.N[i0]?=some y) (hx:Loc X.env.scope y) (hc:X.calm=true) (S:CScope X.env.scope X.N scope x) (hi:PI X (.Name x px) iter wi)
  (ht:∀(cl:List (Str×Addr)) (C:Addr) (s₂:Shared) (H₂:Hp) (fp:List Addr) (aa:List (Addr×Obj)),PTs (cxC X scope cl x C s₂ H₂ fp aa) ifs tt)
  (he:∀(cl:List (Str×Addr)) (C:Addr) (s₂:Shared) (H₂:Hp) (fp:List Addr) (aa:List (Addr×Obj)),bI (CX1 P w) ((cxC X scope cl x C s₂ H₂ fp aa).wish (xeC X C)) (fun _=>E)->PE ((cxC X scope cl x C s₂ H₂ fp aa).wish (xeC X C)) elt te)
  (hsw:swapsWith (.ListComp elt [⟨.Name x px,iter,ifs,0⟩] scope pos) (some (.Name y py)) spos.line X.env=pure true) (hs:∀v,foldedSetIterable iter X.env v=pure v:=by intro _;rfl)
  (hf:X.fn y=true∨X.env.scope.names.lookup y=some .local :=by first|exact .inl rfl|exact .inr rfl|assumption) :
  PS X (.Assign [.Name y py] (.ListComp elt [⟨.Name x px,iter,ifs,0⟩] scope pos) spos) (wv (nX wi tt te) (fZ i0)):=by
 intro aa s σ H D0 I h
 obtain⟨cl,hcl0,hcl1,hcl2⟩:=eN (scope:=scope) (env:=X.env) (fun y hy hf=>I.ok.has y.1 (S.free y hy hf))
 rw[exec_Assign_Name_used _ _ _ _ hsw]
 refine wpAny_bind (wpAny_standAt (wpAny_bind ?_))
 show wpAny _ X.A (do let _ ←comprehension (.ListComp elt [⟨.Name x px,iter,ifs,0⟩] scope pos) scope X.env _ (newList []) false (eval iter X.env) (some (assign (.Name y py) X.env))) _ _ s
 refine wpAny_bind (wpAny_mono (wpAny_comprehension_free (use:=some (assign (.Name y py) X.env)) (E:=X.xe) (Q:=fun _ s'=>SP X aa D0 .next s') rfl hs hcl0 S.kind S.names
  (thn (hi aa s σ H _ I h) fun xv s1 h1=>thn h1 fun itv s2 h2=>?_)) (fun _ s' hq=>wpAny_pure (wpAny_pure hq)) fun _ _ e=>e)
 obtain⟨it,fp,tn,J,H2,e,I2,T,st2,f2,W,⟨m0,w0⟩,turn⟩:=h2
 subst e
 refine wpAny_newObj_type (wpAny_newFunctionEnv S.cell (by intro y hy;cases hy) (fun h₁ hns hsb=>?_) S.kind)
 dsimp only at hns hsb ⊢
 generalize hP:s2.heap.push { cls:=.type "list",dict:=none,data:=.seq ([]:List Value).toArray }=P2 at hns hsb ⊢
 have hC:P2.objs.size=s2.heap.objs.size+1:=by rw[←hP,Heap.size_push]
 have hDC:s2.heap.objs.size≠P2.objs.size:=by rw[hC];exact Nat.ne_of_lt (Nat.lt_succ_self _)
 have hCle:s2.heap.objs.size≤P2.objs.size:=by rw[hC];exact Nat.le_succ _
 have old:∀b o,s2.heap.get? b=some o->h₁.get? b=some o:=fun b o e=>by
  have hb:=Heap.lt_size e
  exact hsb.extBut b o (by rw[hC];exact Nat.ne_of_lt (Nat.lt_succ_of_lt hb)) (Heap.get?_push_of_some _ (hP▸Heap.get?_push_of_some _ e))
 have hd:h₁.get? s2.heap.objs.size=some (aD [] 0):=hsb.extBut _ _ hDC (Heap.get?_push_of_some _ (hP▸Heap.get?_push_size _ rfl))
 have fo:∀b∈fp,∃o,s2.heap.get? b=some o:=fun b hb=>by
  obtain⟨o,e,_⟩:=T.obj _ _ st2 b hb
  exact⟨o,e⟩
 have neD:∀b∈fp,b≠s2.heap.objs.size:=fun b hb=>by
  obtain⟨o,e⟩:=fo b hb
  exact Nat.ne_of_lt (Heap.lt_size e)
 have JY:Inv (cxC X scope cl x P2.objs.size s2 H2 fp aa) [(s2.heap.objs.size,aD [] 0)] (none::σ) H2 { s2 with heap:=h₁,toks:=s2.toks+([]:List (Str×Value)).length }:=
  gf I2 S f2 fo hcl1 hcl2 (Nat.le_refl _) hCle hDC ⟨_,hns⟩ hd old
 have stat:∀{H':Hp}{its:List Value}{n:Nat},(∀b∈fp,H' b=none)->∀b∈fp,cW (cxC X scope cl x P2.objs.size s2 H2 fp aa) [(s2.heap.objs.size,aD its n)] H' b:=fun {H' its n} hn b hb=>by
  obtain⟨_,g1,g2,g3,g4,g5⟩:=f2 b hb
  obtain⟨o,e⟩:=fo b hb
  refine⟨hn b hb,?_,fun z=>?_,.inl hb,fun y c q=>g4 y c (hcl1 y c q),fun p hp=>?_⟩
  ·show b≠P2.objs.size
   exact Nat.ne_of_lt (Nat.lt_of_lt_of_le (Heap.lt_size e) hCle)
  ·rcases List.mem_cons.mp (I2.stkSub b z) with r|r
   ·exact g1 r
   ·exact g2 r
  ·rcases List.mem_append.mp hp with z|z
   ·exact g5 p z
   ·rw[List.mem_singleton.mp z];exact fun q=>neD b hb q.symm
 have pc:bI (CX1 P w) ((cxC X scope cl x P2.objs.size s2 H2 fp aa).wish (xeC X P2.objs.size)) (fun _=>E):=by
  subst hX
  exact nq I2 f2 hCle
 have nodup:(cxC X scope cl x P2.objs.size s2 H2 fp aa).N.Nodup:=List.nodup_cons.mpr ⟨S.fresh,hN⟩
 have loc:Loc (cxC X scope cl x P2.objs.size s2 H2 fp aa).env.scope x:=.inl (lookup_relabel_local S.var)
 have loop:∀s4:Shared,s4={ s2 with heap:=h₁,toks:=s2.toks+([]:List (Str×Value)).length }->
   codeAny (model X.prog X.w) X.A (.compLoop (.ListComp elt [⟨.Name x px,iter,ifs,0⟩] scope pos) 0 (.ref it) (.ref s2.heap.objs.size) (compEnvC scope cl P2.objs.size X.env))
    (compPost (model X.prog X.w) X.A X.xe (some (assign (.Name y py) X.env)) (fun _ s'=>SP X aa D0 .next s') (.ref s2.heap.objs.size) P2.objs.size) s4:=by
  rintro s4 rfl
  refine codeAny_loop rfl (fun n s'=>∃i ys its c H' v0,Inv (cxC X scope cl x P2.objs.size s2 H2 fp aa) [(s2.heap.objs.size,aD its c)] (v0::σ) H' s'∧tn i s'.heap∧(∀b∈fp,H' b=none)∧av ys its∧W i n ys H') ?_ m0
   ⟨0,[],[],0,H2,none,JY,T.keep _ _ _ st2 (fun b _ o e=>old b o e),fun b hb=>(f2 b hb).1,.nil,w0⟩
  rintro n s3 ⟨i,ys,its,c,H3,v0,I3,st3,fr3,rv,w3⟩
  show wpAny _ _ ((compTurn (.ListComp elt [⟨.Name x px,iter,ifs,0⟩] scope pos) 0 (.ref it) (.ref s2.heap.objs.size) (compEnvC scope cl P2.objs.size X.env)).onRaise (fun z=>do noteFrame z (compEnvC scope cl P2.objs.size X.env);theTreesLotGoes z)) _ _ s3
  refine wpAny_noted ?_
  rw[compTurn_list]
  rcases turn i n ys H3 w3 with⟨stop,hz,qn⟩|⟨go,hz,NN,hNN,step⟩
  ·refine wpAny_bind (wpAny_standAt (wpAny_bind (thn (T.done (cxC X scope cl x P2.objs.size s2 H2 fp aa) rfl rfl rfl hc i _ s3 _ H3 _ I3 (stat fr3) st3 stop) fun r s5 hh9=>?_)))
   obtain⟨hr,I5⟩:=hh9
   subst hr
   refine wpAny_pure ?_
   obtain⟨mC,hmC,_⟩:=I5.loc
   obtain⟨I6,nD⟩:=ib I2 f2 (Nat.le_refl _) hCle I5 (Heap.SameBut.refl _ _) rv hz
   have fC:H3 P2.objs.size=none:=I5.free
   have q:=qn _ nD
   have big:∀b o,s2.heap.get? b=some o->b≠P2.objs.size:=fun b o e=>Nat.ne_of_lt (Nat.lt_of_lt_of_le (Heap.lt_size e) hCle)
   have bigC:∀z c,X.env.cells.lookup z=some c->c≠P2.objs.size:=fun z c e=>by
    obtain⟨v,q⟩:=I2.cell z c e
    exact Nat.ne_of_lt (Nat.lt_of_lt_of_le q.lt hCle)
   have bigL:X.env.locals≠P2.objs.size:=Nat.ne_of_lt (Nat.lt_of_lt_of_le I2.lt hCle)
   refine wpAny_assign_Name (iO (v:=.ref s2.heap.objs.size) I6 hN hi0 hx rfl (fun s7 I7 ⟨a,sb,ha⟩=>?_) hf)
   have neC:P2.objs.size≠a:=by
    rcases ha with ha|ha
    ·rw[ha];exact Ne.symm bigL
    ·exact Ne.symm (bigC _ _ ha)
   exact⟨mC,hmC.sameBut sb neC,fun h' hs'=>⟨_,_,I7.turned (t':=s7.toks) (it:=P2.objs.size) (fun b o hb e=>(hs'.2 b hb).trans e) (by rw[ap (Ne.symm hDC)];exact fC) (Ne.symm bigL) (.inr (Nat.le_trans I2.sz hCle)) bigC (fun p hp=>big _ _ (I2.pin p hp).1),q⟩⟩
  ·refine wpAny_bind (wpAny_standAt (wpAny_bind (thn (T.item (cxC X scope cl x P2.objs.size s2 H2 fp aa) rfl rfl rfl hc i _ s3 _ H3 _ I3 (stat fr3) st3 go) fun r s5 hh9=>?_)))
   obtain⟨u,hr,h5⟩:=hh9
   subst hr
   refine wpAny_bind (thn h5 fun _ s6 hh9=>?_)
   obtain⟨xv,H6,I6,r6,y6,st6,fr6⟩:=hh9
   have I6':=I6.pinned (stat fr6) (T.obj _ _ st6)
   refine wpAny_bind (wpAny_assign_Name (dY (i:=0) I6' nodup rfl loc r6 (fun s7 I7=>?_) (.inr (lookup_relabel_local S.var))))
   have q7:=step xv H6 y6
   refine wpAny_bind (bU (thn (ht cl P2.objs.size s2 H2 fp aa _ s7 _ H6 _ I7 q7) fun ok s8 hh9=>?_))
   obtain⟨H8,I8,q8⟩:=hh9
   have back:∀{H9:Hp}{s9:Shared},Inv (cxC X scope cl x P2.objs.size s2 H2 fp aa) ([(s2.heap.objs.size,aD its c)]++eI fp s6.heap) (some xv::σ) H9 s9->tn (i+1) s9.heap∧∀b∈fp,H9 b=none:=fun {H9 s9} I9=>by
    refine⟨T.keep _ _ _ st6 fun b hb o e=>(I9.pin (b,o) (List.mem_append_right _ (List.mem_append_right _ (bE hb e)))).1,fun b hb=>?_⟩
    obtain⟨o,e,d⟩:=T.obj _ _ st6 b hb
    exact(I9.pin (b,o) (List.mem_append_right _ (List.mem_append_right _ (bE hb e)))).2.1
   cases ok with
   | false=>
    obtain⟨m',hm,w8⟩:=hNN ys H8 q8
    obtain⟨t8,fr8⟩:=back I8
    exact wpAny_pure ⟨rfl,m',hm,i+1,ys,its,c,H8,_,I8.unpinned,t8,fr8,rv,w8⟩
   | true=>
    refine wpAny_bind (wpAny_bind (wpAny_mono (he cl P2.objs.size s2 H2 fp aa pc _ s8 _ H8 _ (I8.wish _) q8) (fun yv s9 hh=>ex5 hh fun y H9 I9w r9 q9=>?_) (fun _ _ z=>z)))
    have I9:=I9w.unwish
    obtain⟨m',hm,w9⟩:=hNN _ _ q9
    obtain⟨t9,fr9⟩:=back I9
    have I9':=I9.unpinned
    obtain⟨eD,nD,neL,nf,_⟩:=I9'.pin (s2.heap.objs.size,aD its c) (List.mem_append_right _ List.mem_cons_self)
    refine wpAny_bind (wpAny_list_append_plain (items:=its.toArray) ⟨c,eD⟩ (fun h10 hp10 hs10=>?_) (by rw[List.size_toArray,←rv.length];exact Nat.le_of_lt hz))
    obtain⟨c',e10⟩:=hp10
    have e10':h10.get? s2.heap.objs.size=some (aD (its++[yv]) c'):=by rw[e10];simp
    have I10:Inv (cxC X scope cl x P2.objs.size s2 H2 fp aa) [] (some xv::σ) H9 { s9 with heap:=h10 }:=by
     have I9e:Inv (cxC X scope cl x P2.objs.size s2 H2 fp aa) [] (some xv::σ) H9 s9:=I9'.pins_of fun p hp=>absurd hp (by simp)
     refine I9e.turned (t':=s9.toks) (it:=s2.heap.objs.size) (fun b o hb q=>(hs10.2 b hb).trans q) nD neL (.inr (Nat.le_refl _)) (fun y cc q=>?_) fun p hp=>?_
     ·obtain⟨v,z⟩:=I2.cell y cc (hcl1 y cc q)
      exact Nat.ne_of_lt z.lt
     ·have hp':p∈X.pn++aa:=by
       have z:p∈(X.pn++aa)++[]:=hp
       simpa using z
      exact Nat.ne_of_lt (Heap.lt_size (I2.pin p hp').1)
    have I11:Inv (cxC X scope cl x P2.objs.size s2 H2 fp aa) [(s2.heap.objs.size,aD (its++[yv]) c')] (some xv::σ) H9 { s9 with heap:=h10 }:=
     I10.pins_of fun p hp=>by rw[List.mem_singleton.mp hp];exact⟨e10',nD,neL,nf,fun v q=>nomatch q⟩
    refine wpAny_pure (wpAny_pure ⟨rfl,m',hm,i+1,ys++[y],its++[yv],c',H9,_,I11,?_,fr9,rv.append (.cons r9 .nil),w9⟩)
    exact T.keep _ _ _ t9 fun b hb o q=>(hs10.2 b (neD b hb)).trans q
 exact codeAny_compStart_list (loop _ rfl) (T.self X.A 0 _ _ _ (T.keep _ _ _ st2 (fun b _ o e=>old b o e)) (loop _ rfl))
end
end L2
namespace Ord
open PySem L2 Mx
section
variable {P:Program}{w:World}{K:W.Frag}{mg:Str->Option Value}{base:Heap}{CO CB:Addr}
structure ROk (ms:List Nat) (r:Bk.Room):Prop where
 once:∀d∈r,(ms.getD d.2.toNat 0).testBit d.1.toNat=false
 like:∀d∈r,Bk.bN ms d=Bk.bN ms (r.headD (0,0))
def nu (K:W.Frag) (CB:Addr):Sp:=fun vs H Q E=>∃(x:V) (r:Bk.Room) (l:Addr) (ms:List Nat),vs=[x,.ref l]∧bg K H x r∧r≠[]∧r.length≤8∧SqL K H l (dW ms)∧
 (∀d∈r,0≤d.1∧d.1<8∧0≤d.2∧d.2<ms.length)∧(ROk ms r->∀H',ar H H'->Q (.int ((Bk.bN ms (r.headD (0,0)):Nat):Int)) H')∧(¬ROk ms r->∀H',ar H H'->E (.ref CB) none H')
theorem tZ {f:Addr}{fd:FuncData}(F:Fun K "things_of_room" "things_of_room" jC f fd) (T:TxB K mg CO) (BB:OwnX K mg "BadBook" CB) (WT:Df P w K mg base (CX1 P w) 1 "things_through" ["door","things"] (lq K CB)):FnOk P w K mg base (CX1 P w) 2 f fd ["room","things"] (nu K CB):=by
 refine F.okX pU (fun vs H Q E h=>?_) (fun X cdv A outer s H vs Q E hX hp hra hr h=>?_)
 ·obtain⟨x,r,l,ms,rfl,_⟩:=h
  rfl
 obtain⟨x,r,l,ms,rfl,⟨a,xs,rfl,q,pr⟩,ne,r8,ql,all,zg,zb⟩:=h
 subst hX
 refine⟨_,af (xF (i0:=2) rfl pU.nd rfl (Or.inl rfl) rfl (show CScope (am jC) ["room","things","found"] _ _ from by constructor <;> decide +kernel) (gI (pv 0)) (fun _ _ _ _ _ _=>cw)
    (fun cl C s₂ H₂ fp aa hpass=>aF WT hr rfl hpass (ac (pv 0) (ac (pv 2) ae))) rfl)
  (af (aQ (aI (oM hr.units0) (pv 2) (aA Ax (bH (ac (bT (show IxR _ (dJ K) from bA) (pv 2) ao (fun _ _=>rfl)) ae)) (aw aN rfl T.t.len bM (ac (pv 2) ae))) (aM _)) (ai (bp rfl rfl BB hra (ac aE ae))) aB)
  (ai (aL (bT (show IxR _ (dJ K) from bA) (pv 2) ao (fun _ _=>rfl))))),?_⟩
 have hlen:=pr.length
 refine⟨_,rfl,a,rfl,⟨_,q⟩,oJ (K:=K) (a:=a) (xs:=xs) (fun i ys H'=>H'=H∧ys=((r.take i).map fun d=>((Bk.bN ms d:Nat):Int)).map V.int∧∀d∈r.take i,(ms.getD d.2.toNat 0).testBit d.1.toNat=false) ⟨rfl,rfl,fun d hd=>nomatch hd⟩ ?_ (by rw[sizeLine_eq];lia) ?_ ?_⟩
 ·rintro i ys H' hi ⟨rfl,rfl,_⟩
  refine⟨q,?_⟩
  rw[List.length_map,List.length_map,List.length_take]
  lia
 ·rintro i x ys H' hx ⟨rfl,rfl,on⟩
  obtain⟨⟨dt,dk⟩,hd,p,rfl,qd⟩:=bR pr hx
  have mem:=List.mem_of_getElem? hd
  obtain⟨a1,a2,a3,a4⟩:=all _ mem
  refine goT (aG ?_)
  refine⟨_,rfl,_,rfl,.ref p,l,ms,(dt,dk),rfl,⟨p,rfl,qd⟩,ql,a1,a2,a3,a4,fun hb=>?_,fun hb=>?_⟩
  ·rw[aR hd]
   refine⟨rfl,by simp,fun d h=>?_⟩
   rcases List.mem_append.mp h with h|h
   ·exact on d h
   ·rw[List.mem_singleton.mp h];exact hb
  ·refine zb (fun R=>?_) _ (ar.refl _)
   have:=R.once _ mem
   rw[hb] at this
   cases this
 rintro ys H' p ⟨rfl,rfl,on⟩ hp0
 rw[hlen,List.take_length] at on
 have e0:r.take xs.length=r:=by rw[hlen,List.take_length]
 rw[e0]
 obtain⟨d0,r',rfl⟩:=List.exists_cons_of_ne_nil ne
 have s1:ar H' (upd H' p (.lst (((d0::r').map fun d=>((Bk.bN ms d:Nat):Int)).map V.int))):=ak hp0 _
 generalize hys:((d0::r').map fun d=>((Bk.bN ms d:Nat):Int))=ns at s1 ⊢
 have ln:ns.length=(d0::r').length:=by rw[←hys,List.length_map]
 have at0:atI (ns.map V.int) 0=some (V.int ((Bk.bN ms d0:Nat):Int)):=br (j:=0) (by rw[←hys];rfl)
 have lr:(ns.map V.int).length=ns.length:=List.length_map _
 refine⟨_,rfl,_,rfl,p,_,0,.int ((Bk.bN ms d0:Nat):Int),rfl,rfl,SqL.up,at0,by show 1≤sizeLine;decide,fun l0 hl0=>?_⟩
 have s2:=ak hl0 (.lst [V.int ((Bk.bN ms d0:Nat):Int)])
 have hp1:=s2 _ _ (ag (H:=H') (a:=p) (o:=.lst (ns.map V.int)))
 refine⟨_,rfl,p,_,rfl,.inl (.inl (.inl hp1)),l0,((ns.map V.int).length:Nat),[V.int ((Bk.bN ms d0:Nat):Int)],rfl,rfl,ag,by lia,by rw[lr];lia,by rw[lr,sizeLine_eq];simp;lia,fun l1 hl1=>?_⟩
 have e1:∀k:Nat,(List.replicate k [V.int ((Bk.bN ms d0:Nat):Int)]).flatten=(List.replicate k ((Bk.bN ms d0:Nat):Int)).map V.int:=fun k=>by
  induction k with
  | zero=>rfl
  | succ k ih=>rw[List.replicate_succ,List.flatten_cons,ih,List.replicate_succ];rfl
 rw[lr,Int.toNat_natCast,e1]
 have hp2:=(ak hl1 (.lst ((List.replicate ns.length ((Bk.bN ms d0:Nat):Int)).map V.int))) _ _ hp1
 have s3:=(s1.trans s2).trans (ak hl1 (.lst ((List.replicate ns.length ((Bk.bN ms d0:Nat):Int)).map V.int)))
 refine⟨p,l1,_,_,rfl,rfl,.inl (.inl hp2),SqL.up,dh _,dh _,_,rfl,?_⟩
 rw[iV]
 by_cases c:ns=List.replicate ns.length ((Bk.bN ms d0:Nat):Int)
 ·rw[decide_eq_true c]
  refine aO ?_
  refine⟨_,rfl,p,_,0,.int ((Bk.bN ms d0:Nat):Int),rfl,rfl,.inl (.inl hp2),at0,zg ⟨on,fun d hd=>?_⟩ _ s3⟩
  have hm:((Bk.bN ms d:Nat):Int)∈ns:=by rw[←hys];exact List.mem_map.mpr ⟨d,hd,rfl⟩
  rw[c] at hm
  exact Int.ofNat.inj (List.eq_of_mem_replicate hm)
 ·rw[decide_eq_false c]
  refine aG ⟨by show 1≤sizeLine;decide,zb (fun R=>c ?_) _ s3⟩
  refine List.eq_replicate_iff.mpr ⟨rfl,fun b hb=>?_⟩
  rw[←hys] at hb
  obtain⟨d,hd,rfl⟩:=List.mem_map.mp hb
  rw[R.like d hd]
  rfl
def FOk (many:Int) (rs:List Bk.Room):Prop:=∀i r,rs[i]?=some r->(r≠[]∧DOk many ((i+2:Nat):Int) r)∧ROk (Bk.aU (rs.take i)) r
theorem FOk.take {many:Int}{rs:List Bk.Room}(h:FOk many rs) (n:Nat):FOk many (rs.take n):=fun i r e=>by
 have hi:i<n:=by
  have:=(List.getElem?_eq_some_iff.mp e).1
  rw[List.length_take] at this
  lia
 rw[List.getElem?_take,if_pos hi] at e
 rw[List.take_take,Nat.min_eq_left (by lia)]
 exact h i r e
theorem FOk.snoc {many:Int}{rs:List Bk.Room}{n:Nat}{r:Bk.Room}(e:rs[n]?=some r):FOk many (rs.take (n+1))↔FOk many (rs.take n)∧(r≠[]∧DOk many ((n+2:Nat):Int) r)∧ROk (Bk.aU (rs.take n)) r:=by
 have hn:=(List.getElem?_eq_some_iff.mp e).1
 constructor
 ·intro h
  refine⟨?_,?_⟩
  ·have:=h.take n
   rwa[List.take_take,Nat.min_eq_left (by lia)] at this
  ·have:=h n r (by rw[List.getElem?_take,if_pos (by lia)];exact e)
   rwa[List.take_take,Nat.min_eq_left (by lia)] at this
 ·rintro⟨h,g⟩ i r' e'
  have hi:i<n+1:=by
   have:=(List.getElem?_eq_some_iff.mp e').1
   rw[List.length_take] at this
   lia
  rw[List.getElem?_take,if_pos hi] at e'
  rw[List.take_take,Nat.min_eq_left (by lia)]
  by_cases c:i=n
  ·subst c
   rw[e] at e'
   cases e'
   exact g
  ·have:=h i r' (by rw[List.getElem?_take,if_pos (by lia)];exact e')
   rwa[List.take_take,Nat.min_eq_left (by lia)] at this
theorem FOk.wf {many:Int}{rs:List Bk.Room}(h:FOk many rs):Bk.WF rs:=fun i r e=>by
 obtain⟨⟨ne,D⟩,_⟩:=h i r e
 exact⟨ne,fun d hd=>by have:=D.all d hd;lia,D.rise⟩
theorem FOk.mask {many:Int}{rs:List Bk.Room}(m8:many≤8) (h:FOk many rs):Bk.MOk rs:=fun i r e d hd=>by
 obtain⟨⟨ne,D⟩,R⟩:=h i r e
 have il:=(List.getElem?_eq_some_iff.mp e).1
 have tl:(rs.take i).length=i:=by rw[List.length_take];lia
 have up:∀k:Nat,k<i+2->(Bk.aU (rs.take i)).getD k 0=Bk.msk rs k:=fun k hk=>(Bk.dE (List.take_prefix i rs) (by rw[tl];lia)).symm
 have b:=D.all d hd
 have e1:=up d.2.toNat (by lia)
 refine⟨b.1,by lia,?_,?_⟩
 ·rw[←e1];exact R.once d hd
 ·obtain⟨d0,r',rfl⟩:=List.exists_cons_of_ne_nil ne
  have b0:=D.all d0 List.mem_cons_self
  rw[Bk.pM e (by lia),←e1,←up d0.2.toNat (by lia)]
  exact R.like d hd
theorem t5 {rs:List Bk.Room}{n:Nat}{r:Bk.Room}(e:rs[n]?=some r):Bk.aU (rs.take (n+1))=Bk.aU (rs.take n)++[Bk.bN (Bk.aU (rs.take n)) (r.headD (0,0))]:=by
 rw[List.take_add_one,e]
 unfold Bk.aU
 rw[Option.toList_some,List.foldl_append]
 rfl
def sw (K:W.Frag) (CB:Addr):Sp:=fun vs H Q E=>∃(many:Int) (l:Addr) (xs:List V) (rs:List Bk.Room),vs=[.int many,.ref l]∧SqL K H l xs∧Paired (bg K H) xs rs∧many≤8∧rs.length≤1000∧
 (FOk many rs->∀(t:Addr) (H':Hp),ar H H'->H' t=some (.lst (dW (Bk.aU rs)))->Q (.ref t) H')∧(¬FOk many rs->∀H',ar H H'->E (.ref CB) none H')
theorem xG {f:Addr}{fd:FuncData}(F:Fun K "things_from" "things_from" tV f fd) (T:TxB K mg CO) (WD:Df P w K mg base (CX1 P w) 3 "look_doors" ["many","room","number"] (qf K CB)) (WO:Df P w K mg base (CX1 P w) 2 "things_of_room" ["room","things"] (nu K CB)) :
  FnOk P w K mg base (CX1 P w) 4 f fd ["many","rooms"] (sw K CB):=by
 refine F.okX pV (fun vs H Q E h=>?_) (fun X cdv A outer s H vs Q E hX hp hra hr h=>?_)
 ·obtain⟨many,l,xs,rs,rfl,_⟩:=h
  rfl
 obtain⟨many,l,xs,rs,rfl,ql,pr,m8,few,zg,zb⟩:=h
 subst hX
 refine⟨_,af (ay (i:=2) pV.nd rfl (Or.inl rfl) (bH (ac ao (ac ao ae))))
  (af (cZ (show PassesOwn _ _ _ _ from PassesOwn.leaving) rfl (cg (pv 1)) (bQ (i:=3) pV.nd rfl (Or.inl rfl))
   (af (bq (aF WD hr rfl hp (ac (pv 0) (ac (pv 3) (ac (aw aN rfl T.t.len bM (ac (pv 2) ae)) ae)))))
   (ai (bq (bP PySem.F.plainAttrs_list PySem.F.slot_list_append PySem.F.type_list_append de (pv 2) (ac (aF WO (hr.mono (by decide)) rfl hp (ac (pv 3) (ac (pv 2) ae))) ae))))))
  (ai (aL (pv 2)))),?_⟩
 refine⟨by show 2≤sizeLine;decide,fun t ht=>?_⟩
 have s1:ar H (upd H t (.lst [V.int 0,V.int 0])):=ak ht _
 have hlen:=pr.length
 refine⟨_,rfl,l,rfl,⟨_,s1.seqL ql⟩,dZ (K:=K) (a:=l) (xs:=xs) (fun i σ H2=>∃v3,σ=[some (.int many),some (.ref l),some (.ref t),v3]∧ar H H2∧H2 t=some (.lst (dW (Bk.aU (rs.take i))))∧FOk many (rs.take i)) ⟨none,rfl,s1,ag,fun i r e=>by simp at e⟩ ?_ ?_ ?_⟩
 ·rintro i σ H2 _ ⟨v3,rfl,s2,_⟩
  exact s2.seqL ql
 ·rintro i x σ H2 hx ⟨v3,rfl,s2,ht2,fo⟩
  obtain⟨r,hr0,ra⟩:=bR pr hx
  have il:=(List.getElem?_eq_some_iff.mp hr0).1
  have tl:(rs.take i).length=i:=by rw[List.length_take];lia
  have ml:(dW (Bk.aU (rs.take i))).length=i+2:=by unfold dW;rw[List.length_map,Bk.cF,tl]
  have sn:=FOk.snoc (many:=many) hr0
  have bad:¬((r≠[]∧DOk many ((i+2:Nat):Int) r)∧ROk (Bk.aU (rs.take i)) r)->¬FOk many rs:=fun n g=>n (sn.mp (g.take (i+1))).2
  refine⟨_,rfl,_,rfl,_,rfl,t,_,rfl,.inl (.inl (.inl ht2)),many,_,x,r,rfl,ra.same s2,?_,?_,?_⟩
  ·rw[ml]
   exact gh (by lia) (by lia)
  ·rw[ml]
   intro D
   have D8:∀d∈r,0≤d.1∧d.1<8∧0≤d.2∧d.2<((Bk.aU (rs.take i)).length:Nat):=fun d hd=>by
    have:=D.2.all d hd
    have e2:(Bk.aU (rs.take i)).length=i+2:=by rw[Bk.cF,tl]
    rw[e2]
    exact⟨this.1,by lia,by lia,this.2.2.2⟩
   refine⟨_,rfl,.inl ⟨rfl,_,.inl (.inl ht2)⟩,_,rfl,_,rfl,x,r,t,Bk.aU (rs.take i),rfl,ra.same s2,D.1,Bk.xD D.2.rise (fun d hd=>⟨(D8 d hd).1,(D8 d hd).2.1⟩),.inl (.inl ht2),D8,fun R H3 s3=>?_,fun R H3 s3=>zb (bad fun g=>R g.2) H3 (s2.trans s3)⟩
   refine⟨t,_,_,rfl,rfl,s3 _ _ ht2,by rw[ml,sizeLine_eq];lia,?_⟩
   have tH:H t=none:=ht
   refine⟨_,rfl,fun b o e=>?_,?_,sn.mpr ⟨fo,D,R⟩⟩
   ·rw[ap (au e tH)]
    exact s3 b o (s2 b o e)
   ·rw[ag,t5 hr0]
    unfold dW
    rw[List.map_append]
    rfl
  ·rw[ml]
   exact fun D=>zb (bad fun g=>D g.1) H2 s2
 ·rintro σ H2 ⟨v3,rfl,s2,ht2,fo⟩
  rw[hlen,List.take_length] at ht2 fo
  exact⟨_,rfl,zg fo t H2 s2 ht2⟩
end
end Ord
namespace Ord
open PySem L2 Mx
section
variable {P:Program}{w:World}{K:W.Frag}{mg:Str->Option Value}{base:Heap}{CO:Addr}
structure WholeB (many:Nat) (rs:List Bk.Room) (first:Nat):Prop where
 m1:1≤many
 m8:many≤8
 rooms:Whole many rs
 few:rs.length<70
 nd:rs.Nodup
 fst:first=0∨(1<first∧first<rs.length+2∧Bk.msk rs first=2 ^ many-1)
 fits:Bk.cX 8 rs first
 walk:Bk.walk 8 rs first [0,1]=aY (rs.length+2)
theorem BookA.same {H H':Hp}{x:V}{many:Int}{rs:List Bk.Room}{first:Int}(s:ar H H') (h:BookA K H x many rs first):BookA K H' x many rs first:=by
 obtain⟨b,l,xs,e,q,ql,pr⟩:=h.ex
 exact⟨b,l,xs,e,s.seqT q,s.seqL ql,aJ (fun _ _ z=>z.same s) pr⟩
theorem je:FnScope ["book","many","rooms","first","things"] ["book"] (am tW):={}
end
end Ord
namespace L2
theorem jf {α:Type} [DecidableEq α]:∀(L ks:List α),ks.Nodup->(∀x∈ks,x∈L)->(∀x∈L,x∈ks)->L.length≤ks.length->L.Nodup
 | [],_,_,_,_,_=>List.nodup_nil
 | x::L,ks,nd,h1,h2,hl=>by
  have hx:x∈ks:=h2 x List.mem_cons_self
  by_cases c:x∈L
  ·have:=cO ks L nd fun y hy=>by
    rcases List.mem_cons.mp (h1 y hy) with rfl|h
    ·exact c
    ·exact h
   rw[List.length_cons] at hl
   lia
  ·have le:(ks.erase x).length=ks.length-1:=List.length_erase_of_mem hx
   refine List.nodup_cons.mpr ⟨c,jf L (ks.erase x) (nd.erase x) (fun y hy=>?_) (fun y hy=>?_) (by rw[le];rw[List.length_cons] at hl;lia)⟩
   ·have:=(nd.mem_erase_iff).mp hy
    rcases List.mem_cons.mp (h1 y this.2) with h|h
    ·exact absurd h this.1
    ·exact h
   ·refine(nd.mem_erase_iff).mpr ⟨?_,h2 y (List.mem_cons_of_mem _ hy)⟩
    rintro rfl
    exact c hy
end L2
namespace Ord
open PySem L2 Mx
section
variable {P:Program}{w:World}{K:W.Frag}{mg:Str->Option Value}{base:Heap}{CO CB:Addr}
def TOk (n:Nat) (rs:List Bk.Room) (k:Int):Prop:=rs.Nodup∧Bk.walk n rs k [0,1]=aY (rs.length+2)
def qh (K:W.Frag) (CB:Addr) (n:Nat):Sp:=fun vs H Q E=>∃(l:Addr) (xs:List V) (rs:List Bk.Room) (k:Int),vs=[.ref l,.int k]∧SqL K H l xs∧Paired (bg K H) xs rs∧Bk.WF rs∧rs.length<70∧Bk.cX n rs k∧
 (TOk n rs k->∀H',ar H H'->Q .non H')∧(¬TOk n rs k->∀H',ar H H'->E (.ref CB) none H')
theorem vK {f:Addr}{fd:FuncData}(n:Nat) (F:Fun K "look_turn" "look_turn" li f fd) (T:TxB K mg CO) (BB:OwnX K mg "BadBook" CB) (WW:Df P w K mg base CX0 (n+1) "walk_rooms" ["rooms","number","walked"] (lj K n)) :
  FnOk P w K mg base (CX1 P w) (n+2) f fd ["rooms","first"] (qh K CB n):=by
 refine F.okX su (fun vs H Q E h=>?_) (fun X cdv A outer s H vs Q E hX hp hra hr h=>?_)
 ·obtain⟨l,xs,rs,k,rfl,_⟩:=h
  rfl
 obtain⟨l,xs,rs,k,rfl,ql,pr,wf,few,fit,zg,zb⟩:=h
 subst hX
 obtain⟨t0,m0⟩:=T.no
 obtain⟨t1,m1⟩:=T.en
 obtain⟨t2,m2⟩:=T.low
 refine⟨_,af (aQ (aI fm (aw vA rfl T.t.len bM (ac (aZ (vz cR (DL P w) (by have h9:(A.deeper (PyProof.Rows.envOfC "look_turn" (am li) s.heap.objs.size f cdv)).units+16*(n+1)+200<cLine:=hr.un;show(A.deeper _).units+1+1+1+1<cLine;lia) rfl (fun I h=>iW I h) (fun⟨p,_,e,_⟩=>⟨p,e⟩)) rfl T.set DQ (ac (pv 0) ae)) ae))
    (aw aN rfl T.t.len bM (ac (pv 0) ae)) (aM _)) (ai (bp rfl rfl BB hra (ac aE ae))) aB)
  (af (ay (i:=2) su.nd rfl (Or.inl rfl) (zi (o8 (bj (v:=.int 0) rfl m0 ⟨t0,rfl⟩) kz (o8 (bj (v:=.int 1) rfl m1 ⟨t1,rfl⟩) kz zh)) rfl rfl (by decide) (by decide)))
  (af (bq (aF WW hr rfl pS (ac (pv 0) (ac (pv 1) (ac (pv 2) ae)))))
  (ai (aQ (aI (oM hr.units0) (aZ (lS rfl) rfl T.t.list kP (ac (pv 2) ae))
    (aZ (iK rfl) rfl T.t.list kP (ac (aZ mG rfl T.t.range rL (ac (aA ck (bj (v:=.int 2) rfl m2 ⟨t2,rfl⟩) (aw aN rfl T.t.len bM (ac (pv 0) ae))) ae)) ae)) (aM _))
   (ai (bp rfl rfl BB hra (ac aE ae))) aB)))),?_⟩
 refine⟨_,rfl,.ref l,rs.map enc,rfl,⟨l,xs,rfl,ql,gn pr⟩,by rw[List.length_map];exact few,fun p bs ks hp0 pb ndk mem=>?_⟩
 have s1:ar H (upd H p (gB w p bs)):=ak hp0 _
 have hlen:=pr.length
 have hbk:=pb.length
 refine⟨p,bs,rfl,ag,?_⟩
 refine⟨_,rfl,l,_,rfl,.inl (s1.seqL ql),rfl,_,rfl,?_⟩
 by_cases nd:rs.Nodup
 case neg=>
  have lb:bs.length≠xs.length:=fun e=>nd (by
   have:=jf (rs.map enc) ks ndk (fun x hx=>(mem x).mp hx) (fun x hx=>(mem x).mpr hx) (by rw[List.length_map];lia)
   unfold List.Nodup at this ⊢
   rw[List.pairwise_map] at this
   exact this.imp fun h e=>h (congrArg enc e))
  rw[decide_eq_false (fun h=>lb (by have:=V.int.inj h;lia))]
  exact aG ⟨by show 1≤sizeLine;decide,zb (fun h=>nd h.1) _ s1⟩
 have ndm:(rs.map enc).Nodup:=by
  unfold List.Nodup
  rw[List.pairwise_map]
  exact nd.imp fun h e=>h (ss e)
 have lb:bs.length=xs.length:=by
  have h1:=cO ks (rs.map enc) ndk fun x hx=>(mem x).mp hx
  have h2:=cO (rs.map enc) ks ndm fun x hx=>(mem x).mpr hx
  rw[List.length_map] at h1 h2
  lia
 rw[lb,decide_eq_true rfl]
 refine aO ?_
 intro wd hw0
 refine⟨ag,[(Sum.inl 0,V.bl true),(Sum.inl 1,V.bl true)],rfl,by decide,?_⟩
 have hwd:(upd (upd (upd H p (gB w p bs)) wd (HO.dK [])) wd (HO.dK (fU [] [(Sum.inl 0,V.bl true),(Sum.inl 1,V.bl true)]))) wd=some (.dK (wlk [0,1])):=by rw[ag];rfl
 have s3:ar H (upd (upd (upd H p (gB w p bs)) wd (HO.dK [])) wd (HO.dK (fU [] [(Sum.inl 0,V.bl true),(Sum.inl 1,V.bl true)]))):=fun b o e=>by
  have nb:b≠wd:=au (s1 b o e) hw0
  rw[ap nb,ap nb]
  exact s1 b o e
 refine⟨_,rfl,_,rfl,_,rfl,l,wd,xs,rs,k,[0,1],rfl,s3.seqL ql,aJ (fun _ _ z=>z.same s3) pr,wf,by lia,hwd,⟨by decide,fun x hx=>?_,by decide,by decide⟩,fit,fun H4 s4 h4=>?_⟩
 ·rcases List.mem_cons.mp hx with rfl|hx
  ·lia
  ·rw[List.mem_singleton.mp hx];lia
 have wdH:H wd=none:=s1.free hw0
 have s5:ar H H4:=fun b o e=>s4 b o (au e wdH) (s3 b o e)
 generalize hws:Bk.walk n rs k [0,1]=ws at h4
 have e1:(wlk ws).map (fun kv=>kV kv.1)=ws.map V.int:=by
  unfold wlk
  rw[List.map_map]
  rfl
 refine⟨_,rfl,wd,_,rfl,h4,fun l1 hl1=>?_⟩
 rw[e1]
 have s6:=s5.trans (ak hl1 (.lst (ws.map V.int)))
 refine⟨_,rfl,l,_,rfl,.inl (s6.seqL ql),2,_,rfl,rfl,_,rfl,fun r1 hr1=>?_⟩
 have s7:=s6.trans (ak hr1 (.rng 0 (2+((xs.length:Nat):Int))))
 refine⟨r1,0,2+((xs.length:Nat):Int),rfl,ag,by lia,by lia,by lia,by lia,by lia,fun l2 hl2=>?_⟩
 have e2:ig 0 (2+((xs.length:Nat):Int)-0).toNat=(aY (rs.length+2)).map V.int:=by
  rw[fz,show(2+((xs.length:Nat):Int)-0).toNat=rs.length+2 by lia]
 rw[e2]
 have s8:=s7.trans (ak hl2 (.lst ((aY (rs.length+2)).map V.int)))
 have hl1':(upd (upd (upd H4 l1 (.lst (ws.map V.int))) r1 (.rng 0 (2+((xs.length:Nat):Int)))) l2 (.lst ((aY (rs.length+2)).map V.int))) l1=some (.lst (ws.map V.int)):=
  ak hl2 _ _ _ (ak hr1 _ _ _ ag)
 refine⟨l1,l2,_,_,rfl,rfl,.inl (.inl hl1'),SqL.up,dh _,dh _,_,rfl,?_⟩
 rw[iV]
 by_cases c:ws=aY (rs.length+2)
 ·rw[decide_eq_true c]
  exact aO (zg ⟨nd,hws.trans c⟩ _ s8)
 ·rw[decide_eq_false c]
  exact aG ⟨by show 1≤sizeLine;decide,zb (fun h=>c (hws.symm.trans h.2)) _ s8⟩
structure BOk (many:Int) (rs:List Bk.Room) (first:Int):Prop where
 m:1≤many∧many≤8
 fo:FOk many rs
 fst:jF many.toNat (Bk.aU rs) first
 turn:TOk 8 rs first
theorem t6 {many:Nat}{rs:List Bk.Room}{first:Int}(m8:many≤8) (fo:FOk many rs) (h:jF many (Bk.aU rs) first):Bk.cX 8 rs first:=by
 rcases h with rfl|⟨f1,f2,f3⟩
 ·exact(show Bk.cX 0 rs 0 from .inl rfl).le (by lia)
 ·rw[Bk.cF] at f2
  have fe:((first.toNat:Nat):Int)=first:=Int.toNat_of_nonneg (by lia)
  have:=Bk.lV fo.wf many first.toNat (by lia) (by lia) fun o ho=>by
   have p:=Bk.zH fo.wf (fo.mask (by lia)) (many:=many) (k:=first.toNat) (by lia) (by lia) f3 o ho
   rw[p.length_eq,cV]
  rw[fe] at this
  exact this.le m8
def jG (K:W.Frag) (CB:Addr):Sp:=fun vs H Q E=>∃(x:V) (many:Int) (rs:List Bk.Room) (first:Int),vs=[x]∧BookA K H x many rs first∧rs.length<70∧(BOk many rs first->∀H',ar H H'->Q .non H')∧(¬BOk many rs first->∀H',ar H H'->E (.ref CB) none H')
theorem xH {f:Addr}{fd:FuncData}(F:Fun K "look_book" "look_book" tW f fd) (WP:Df P w K mg base (CX1 P w) 3 "look_parts" ["book"] (qe K CB)) (WF':Df P w K mg base (CX1 P w) 4 "things_from" ["many","rooms"] (sw K CB))
  (WL:Df P w K mg base (CX1 P w) 1 "look_first" ["many","things","first"] (qc K CB)) (WT:Df P w K mg base (CX1 P w) 10 "look_turn" ["rooms","first"] (qh K CB 8)):FnOk P w K mg base (CX1 P w) 11 f fd ["book"] (jG K CB):=by
 refine F.okX je (fun vs H Q E h=>?_) (fun X cdv A outer s H vs Q E hX hp hra hr h=>?_)
 ·obtain⟨x,many,rs,first,rfl,_⟩:=h
  rfl
 obtain⟨x,many,rs,first,rfl,B,few,zg,zb⟩:=h
 obtain⟨b,l,xs,rfl,q,ql,pr⟩:=id B.ex
 subst hX
 refine⟨_,af (bq (aF WP (hr.mono (by decide)) rfl hp (ac (pv 0) ae)))
  (af (ay (i:=1) je.nd rfl (Or.inl rfl) (pxT K (pv 0) ao))
  (af (ay (i:=2) je.nd rfl (Or.inl rfl) (pxT K (pv 0) ao))
  (af (ay (i:=3) je.nd rfl (Or.inl rfl) (pxT K (pv 0) ao))
  (af (ay (i:=4) je.nd rfl (Or.inl rfl) (aF WF' (hr.mono (by decide)) rfl hp (ac (pv 1) (ac (pv 2) ae))))
  (af (bq (aF WL (hr.mono (by decide)) rfl hp (ac (pv 1) (ac (pv 4) (ac (pv 3) ae)))))
  (ai (bq (aF WT hr rfl hp (ac (pv 2) (ac (pv 3) ae)))))))))),?_⟩
 refine⟨_,rfl,.ref b,many,rs,first,rfl,B,fun m18=>?_,fun h=>zb (fun g=>h g.m) H (ar.refl H)⟩
 refine⟨_,rfl,b,_,0,.int many,rfl,rfl,q,eQ,?_⟩
 refine⟨_,rfl,b,_,1,.ref l,rfl,rfl,q,lW,?_⟩
 refine⟨_,rfl,b,_,2,.int first,rfl,rfl,q,A2,?_⟩
 refine⟨_,rfl,_,rfl,many,l,xs,rs,rfl,ql,pr,m18.2,by lia,fun fo t H1 s1 ht=>?_,fun h H1 s1=>zb (fun g=>h g.fo) H1 s1⟩
 obtain⟨m,rfl⟩:∃m:Nat,many=m:=⟨many.toNat,(Int.toNat_of_nonneg (by lia)).symm⟩
 refine⟨_,rfl,_,rfl,_,rfl,m,first,t,Bk.aU rs,rfl,.inl (.inl ht),by lia,fun fs=>?_,fun h=>zb (fun g=>h g.fst) H1 s1⟩
 refine⟨_,rfl,_,rfl,l,xs,rs,first,rfl,s1.seqL ql,aJ (fun _ _ z=>z.same s1) pr,fo.wf,few,t6 (by lia) fo fs,fun tk H2 s2=>zg ⟨m18,fo,fs,tk⟩ H2 (s1.trans s2),fun h H2 s2=>zb (fun g=>h g.turn) H2 (s1.trans s2)⟩
end
end Ord
namespace L2
open PySem PySem.Spec PyProof.Rows
section
variable {X:Cx}
theorem nv:∀l:List (Str×Tok),av ((l.map (·.1)).map V.str) (strValues l)
 | []=>.nil
 | p::r=>.cons ⟨p.2,rfl⟩ (nv r)
theorem ny:∀{ys:List Str}{us:List Value},av (ys.map V.str) us->StrsAre us ys
 | [],_,h=>by cases h;exact .nil
 | y::ys,_,h=>by
  cases h with
  | cons r t=>
   obtain⟨tk,rfl⟩:=r
   exact .cons y tk (ny t)
def vL:V->List V->Hp->VK->Prop:=fun x vs H Q=>∃z y:Str,x=.str z∧vs=[.str y]∧(y.length==0)=false∧z.length+2≤sizeLine∧∀l,H l=none->Q (.ref l) (upd H l (.lst ((Txt.split z y).map V.str)))
theorem dw:MtR X "str.split" vL:=by
 intro aa s σ H x vs v us Q I rx rv h
 obtain⟨z,y,rfl,rfl,hy,hz,q⟩:=h
 obtain⟨t,rfl⟩:=rx
 obtain⟨_,rfl,u,rfl⟩:=rv.one
 have hn:(Builtin.Str.partsBetween z (Builtin.Str.occurrences z y 0 z.length (z.length+1)) y.length).length≤sizeLine:=by
  have:=StrLaws.occ_length_le z y 0 z.length (z.length+1)
  rw[length_partsBetween]
  lia
 have fin:∀(l:List (Str×Tok)) (k:Nat),l.map (·.1)=Txt.split z y->EP X aa σ Q (.ref s.heap.objs.size) { s with heap:=s.heap.push { cls:=.type "list",data:=.seq (strValues l).toArray },toks:=k }:=fun l k e=>by
  have hl:((Txt.split z y).map V.str).length≤sizeLine:=by
   rw[List.length_map]
   exact Nat.le_trans (split_le z y) hz
  have r:=nv l
  rw[e] at r
  exact⟨.ref s.heap.objs.size,_,I.laid (t':=k) (fun b o e=>Heap.get?_push_of_some _ e) (Nat.le_refl _) (show aS X.prog X.w _ _ _ (.lst ((Txt.split z y).map V.str)) from⟨hl,_,0,r,Heap.get?_push_size _ rfl⟩),rfl,q _ (I.hok.fresh (Nat.le_refl _))⟩
 have args:=F.args_str_split_2 (.str z t) (.str y u)
 by_cases h1:(decide (z.length<y.length)||decide (Builtin.Str.strKind z<Builtin.Str.strKind y))=true
 ·exact call_meets F.slot_str_split (typeIs_str _ _ _) F.entry_str_split args (meets_str_split_cannot_occur z y t u h1) (fin [(z,t)] s.toks (if_pos h1).symm)
 have n1:=eq_false_of_ne_true h1
 by_cases h2:(Builtin.Str.occurrences z y 0 z.length (z.length+1)).isEmpty=true
 ·exact call_meets F.slot_str_split (typeIs_str _ _ _) F.entry_str_split args (meets_str_split_not_found z y t u n1 hy h2) (fin [(z,t)] s.toks ((if_neg h1).trans (if_pos h2)).symm)
 ·refine call_meets F.slot_str_split (typeIs_str _ _ _) F.entry_str_split args (meets_str_split_sep z y t u n1 hy (eq_false_of_ne_true h2) (by lia) hn) ?_
  have:=fin (numbered s.toks (Builtin.Str.partsBetween z (Builtin.Str.occurrences z y 0 z.length (z.length+1)) y.length)) (s.toks+(Builtin.Str.partsBetween z (Builtin.Str.occurrences z y 0 z.length (z.length+1)) y.length).length) ((numbered_texts _ _).trans ((if_neg h1).trans (if_neg h2)).symm)
  rw[←strsFrom_eq] at this
  exact this
def DR (K:W.Frag):V->List V->Hp->VK->Prop:=fun x vs H Q=>∃(y:Str) (p:Addr) (ys:List Str),x=.str y∧vs=[.ref p]∧SqL K H p (ys.map V.str)∧(ys.map (·.length)).sum+ys.length*y.length≤16777216∧Q (.str (Txt.join y ys)) H
theorem jH:MtR X "str.join" (DR X.K):=by
 intro aa s σ H x vs v us Q I rx rv h
 obtain⟨y,p,ys,rfl,rfl,hq,hz,q⟩:=h
 obtain⟨t,rfl⟩:=rx
 obtain⟨_,rfl,rp⟩:=rv.one
 cases rp
 obtain⟨its,r,pl,_⟩:=I.list hq
 exact join_list pl.isList (ny r) hz fun t' k=>⟨.str _,H,I.tok _,⟨t',rfl⟩,q⟩
theorem fF:cm X (.type "int") (fun xs H Q=>∃(z:Str) (n:Int),xs=[.str z]∧intText? z=some n∧z.length≤640∧Q (.int n) H):=by
 intro aa s σ H xs us Q I r h
 obtain⟨z,n,rfl,hn,hl,q⟩:=h
 obtain⟨u,rfl,rx⟩:=dB r
 obtain⟨t,rfl⟩:=rx
 exact W.KIN.call_text hn hl ⟨.int n,H,I.tok _,⟨_,rfl⟩,q⟩
def ER:V->Option Int->Option Int->Hp->VK->Prop:=fun x lo hi H Q=>∃z:Str,x=.str z∧z.length≤sizeLine∧Q (.str (Txt.slice z lo hi)) H
theorem gW:SlR X ER:=by
 intro aa s σ H x v vl vu lo hi sl Q I rx hs pl pu h
 obtain⟨z,rfl,hz,q⟩:=h
 obtain⟨t,rfl⟩:=rx
 refine⟨"str",_,F.slot_str_getitem.lookup,typeIs_str _ _ _,?_⟩
 have fin:∀t' k,EP X aa σ Q (.str (Txt.slice z lo hi) t') { s with toks:=k }:=fun t' k=>⟨.str _,H,I.tok _,⟨t',rfl⟩,q⟩
 cases pl with
 | none=>
  cases pu with
  | none=>exact wpAny_getItem_str_slice (l:=none) (u:=none) (st:=none) hs rfl (post_val_or_str ⟨Nat.le_trans (Txt.slice_le z _ _) hz,fin⟩)
  | int j u=>exact wpAny_getItem_str_slice (l:=none) (u:=some (j,u)) (st:=none) hs rfl (post_val_or_str ⟨Nat.le_trans (Txt.slice_le z _ _) hz,fin⟩)
 | int i u'=>
  cases pu with
  | none=>exact wpAny_getItem_str_slice (l:=some (i,u')) (u:=none) (st:=none) hs rfl (post_val_or_str ⟨Nat.le_trans (Txt.slice_le z _ _) hz,fin⟩)
  | int j u=>exact wpAny_getItem_str_slice (l:=some (i,u')) (u:=some (j,u)) (st:=none) hs rfl (post_val_or_str ⟨Nat.le_trans (Txt.slice_le z _ _) hz,fin⟩)
def sg (c:Nat):Str:=⟨#[c]⟩
def Its (z:Str):It:=⟨fun i _=>i<z.cps.size,fun i H x H'=>H'=H∧∃c,z.cps[i]?=some c∧x=.str (sg c),fun i _=>i=z.cps.size⟩
theorem qi {P:Program}{w:World}{K:W.Frag}{tg:Expr}{it:Addr}{z:Str}{t:Tok}{ty:String}(W:∀A':Around,A'.handled=none->Walks P w A' it [it] [it] z.cps.size (SignAt z) fun i h=>h.IsStrIter it ty z t i)
  (hs:∀(A:Around) (i:Nat) (s:Shared) (Q:Value->Shared->Prop) (E:Value->Shared->Prop),s.heap.IsStrIter it ty z t i->Q (.ref it) s->wpAny (model P w) A (pyIter (.ref it)) Q E s):Turn P w K tg (Its z) [it] it (fun i h=>h.IsStrIter it ty z t i) where
 mem:=by simp
 obj:=fun i h st b hb=>by
  have e:b=it:=by simpa using hb
  subst e
  obtain⟨o,e,c,d⟩:=st
  exact⟨o,e,fun v z=>by rw[d] at z;cases z⟩
 keep:=fun i h h' st k=>by
  obtain⟨o,e,r⟩:=st
  exact⟨o,k it (by simp) o e,r⟩
 item:=by
  intro X hP hw hK hc i aa s σ H E I hf st hg
  subst hP hw hK
  obtain⟨f0,f1,f2,f3,f4,f5⟩:=hf it (by simp)
  refine(W X.A (I.ok.hd hc)).item i s _ _ hg st fun v h' tk hv st' kk=>?_
  obtain⟨c,u,e,rfl⟩:=hv
  have I1:Inv X aa σ H { s with heap:=h',toks:=tk }:=I.turned (fun b o hb e=>kk b o (by simpa using hb) e) f0 f1 f3 f4 f5
  refine⟨_,rfl,?_⟩
  have fin:∃x H',Inv X aa σ H' { s with heap:=h',toks:=tk }∧az x (.str ⟨#[c]⟩ u)∧(Its z).yld i H x H'∧h'.IsStrIter it ty z t (i+1)∧∀b∈[it],H' b=none:=⟨.str (sg c),H,I1,⟨u,rfl⟩,⟨rfl,c,e,rfl⟩,st',fun b hb=>(hf b hb).1⟩
  unfold letOwnedTupleGo
  cases tg <;> exact wpAny_pure fin
 done:=by
  intro X hP hw hK hc i aa s σ H E I hf st hg
  subst hP hw hK
  obtain⟨f0,f1,f2,f3,f4,f5⟩:=hf it (by simp)
  have e:i=z.cps.size:=hg
  subst e
  exact(W X.A (I.ok.hd hc)).done s _ _ st fun h' tk eb=>⟨rfl,I.turned (fun b o hb e=>eb b o (by simpa using hb) e) f0 f1 f3 f4 f5⟩
 self:=hs
def ES (tl:TE):TI:=fun σ H R=>tl σ H fun x H1=>∃z,x=.str z∧R (Its z) H1
theorem vM {tg l:Expr}{tl:TE}(hl:PE X l tl):PI X tg l (ES tl):=by
 intro aa s σ H R I h
 refine thn (hl aa s σ H _ I h) fun v s1 ⟨x,H1,I1,r1,q1⟩=>?_
 obtain⟨z,rfl,q⟩:=q1
 obtain⟨t,rfl⟩:=r1
 have fp:∀b∈[s1.heap.objs.size],cW X aa H1 b:=fun b hb=>by
  have e:b=s1.heap.objs.size:=by simpa using hb
  subst e
  exact I1.fpOk (Nat.le_refl _) (I1.hok.fresh (Nat.le_refl _))
 have I2:∀o:Obj,Inv X aa σ H1 { s1 with heap:=s1.heap.push o }:=fun o=>I1.kept (t':=s1.toks) fun b o e=>Heap.get?_push_of_some _ e
 by_cases ha:z.cps.all (· < 128)=true
 ·exact wpAny_pyIter_ascii ha ⟨_,[s1.heap.objs.size],_,_,H1,rfl,I2 _,qi (fun A' hA=>Walks.strAscii hA _ z t) (fun A i s Q E st h=>wpAny_pyIter_striter_ascii st h),⟨_,Heap.get?_push_size _ rfl,rfl,rfl⟩,fp,q⟩
 ·exact wpAny_pyIter_wide (eq_false_of_ne_true ha) ⟨_,[s1.heap.objs.size],_,_,H1,rfl,I2 _,qi (fun A' hA=>Walks.strWide hA _ z t) (fun A i s Q E st h=>wpAny_pyIter_striter_wide st h),⟨_,Heap.get?_push_size _ rfl,rfl,rfl⟩,fp,q⟩
def PGf (X:Cx) (e:Expr) (P:St->Hp->Str->Prop):Prop:=
 ∀(aa:List (Addr×Obj)) (s:Shared) (σ:St) (H:Hp) (Q:Value->Shared->Prop),Inv X aa σ H s->∀y,P σ H y->(∀t s',Inv X aa σ H s'->Q (.str y t) s')->wpAny (model X.prog X.w) X.A (eval e X.env) Q X.xe s
theorem sx {e:Expr}{te:TE}{pos:Pos}(h:PE X e te):PGf X (.FormattedValue e (-1) none pos) (fun σ H y=>te σ H fun v H'=>H'=H∧∃i:Int,v=.int i∧i.natAbs.log2<1900∧y=Str.ofString (toString i)):=by
 intro aa s σ H Q I y hp hq
 refine wpAny_FormattedValue_plain (thn (h aa s σ H _ I hp) fun u s1 ⟨v,H1,I1,r,eH,i,ev,hb,ey⟩=>?_)
 subst eH ev ey
 obtain⟨t,rfl⟩:=r
 exact wpAny_formatField_int (by lia) (hq _ _ (I1.tok _))
theorem zI {e:Expr}{te:TE}{pos:Pos}(h:PE X e te):PGf X (.FormattedValue e (-1) none pos) (fun σ H y=>te σ H fun v H'=>H'=H∧v=.str y∧y.length≤sizeLine):=by
 intro aa s σ H Q I y hp hq
 refine wpAny_FormattedValue_plain (thn (h aa s σ H _ I hp) fun u s1 ⟨v,H1,I1,r,eH,ev,hz⟩=>?_)
 subst eH ev
 obtain⟨t,rfl⟩:=r
 exact wpAny_formatField_str (hq _ _ I1) (hq _ _ (I1.tok _)) hz
theorem xI {a b c:Expr}{pos:Pos}{Pa Pb Pc:St->Hp->Str->Prop}(ha:PGf X a Pa) (hb:PGf X b Pb) (hc:PGf X c Pc) (he:evalEach [a,b,c] X.env=[eval a X.env,eval b X.env,eval c X.env]:=by rfl) :
  PE X (.JoinedStr [a,b,c] pos) (fun σ H Q=>∃x y z:Str,Pa σ H x∧Pb σ H y∧Pc σ H z∧x.length+y.length+z.length≤sizeLine∧Q (.str (x++y++z)) H):=by
 intro aa s σ H Q I ⟨x,y,z,hx,hy,hz,hl,q⟩
 refine wpAny_JoinedStr ?_
 rw[he]
 have q':Q (.str (Str.empty++x++y++z)) H:=by rw[Str.empty_append];exact q
 have l1:(Str.empty++x).length=x.length:=by rw[Str.length_append];exact Nat.zero_add _
 have l2:(Str.empty++x++y).length=x.length+y.length:=by rw[Str.length_append,l1]
 have l3:(Str.empty++x++y++z).length=x.length+y.length+z.length:=by rw[Str.length_append,l2]
 refine ha aa s σ H _ I x hx fun t s1 I1=>⟨x,t,rfl,by lia,?_⟩
 refine hb aa s1 σ H _ I1 y hy fun t s2 I2=>⟨y,t,rfl,by lia,?_⟩
 refine hc aa s2 σ H _ I2 z hz fun t s3 I3=>⟨z,t,rfl,by lia,?_⟩
 exact⟨by lia,.str (Str.empty++x++y++z),H,I3.tok _,⟨_,rfl⟩,q'⟩
end
end L2
namespace Tx
open PySem PySem.W PySem.NumText
theorem head_digits:∀n:Nat,n≠0->∃c r,Nat.toDigits 10 n=c::r∧c≠'0':=fun n=>by
 induction n using Nat.strongRecOn with
 | _ n ih=>
  intro h0
  by_cases h:n<10
  ·rw[Nat.toDigits_of_lt_base h]
   refine⟨_,_,rfl,?_⟩
   have:∀k:Nat,k<10->k≠0->Nat.digitChar k≠'0':=by decide
   exact this n h h0
  ·obtain⟨c,r,e,ne⟩:=ih (n / 10) (by lia) (by lia)
   have t:Nat.toDigits 10 (n / 10)++Nat.toDigits 10 (n % 10)=Nat.toDigits 10 (10*(n / 10)+n % 10):=Nat.toDigits_append_toDigits (by decide) (by lia) (by lia)
   rw[Nat.div_add_mod] at t
   rw[←t,e]
   exact⟨c,_,rfl,ne⟩
structure Canon (cs:List Nat):Prop where
 dg:AllDigits cs
 ne:cs≠[]
 hd:cs.head?=some 48->cs.length=1
theorem val_snoc (cs:List Nat) (d:Nat):digitsVal (cs++[d])=digitsVal cs*10+(d-48):=by
 unfold digitsVal
 rw[List.foldl_append]
 rfl
theorem qj:∀k:Nat,k<10->(Nat.digitChar k).toNat=k+48:=by decide
theorem canon_back:∀(n:Nat) (cs:List Nat),cs.length=n->Canon cs->(Nat.toDigits 10 (digitsVal cs)).map Char.toNat=cs∧(cs.head?≠some 48->10 ^ (cs.length-1)≤digitsVal cs):=fun n=>by
 induction n with
 | zero=>intro cs h c;exact absurd (List.length_eq_zero_iff.mp h) c.ne
 | succ n ih=>
  intro cs h c
  rcases List.eq_nil_or_concat cs with e|⟨ds,d,e⟩
  ·exact absurd e c.ne
  subst e
  rw[List.concat_eq_append] at *
  have dd:=c.dg d (List.mem_append_right _ (List.mem_singleton.mpr rfl))
  have hl:ds.length=n:=by rw[List.length_append] at h;have:ds.length+1=n+1:=h;lia
  by_cases z:ds=[]
  ·subst z
   show(Nat.toDigits 10 (0*10+(d-48))).map Char.toNat=[d]∧_
   have lt:0*10+(d-48)<10:=by lia
   rw[Nat.toDigits_of_lt_base lt]
   refine⟨?_,fun hz=>?_⟩
   ·show [(Nat.digitChar (0*10+(d-48))).toNat]=[d]
    rw[qj _ lt]
    congr 1
    lia
   ·show 10 ^ 0≤0*10+(d-48)
    have:d≠48:=fun e=>hz (by rw[e];rfl)
    lia
  ·have hz:ds.head?≠some 48:=fun e=>by
    have:=c.hd (by rw[List.head?_append,e];rfl)
    rw[List.length_append] at this
    have:ds.length+1=1:=this
    exact z (List.length_eq_zero_iff.mp (by lia))
   obtain⟨i1,i2⟩:=ih ds hl ⟨fun x hx=>c.dg x (List.mem_append_left _ hx),z,fun e=>absurd e hz⟩
   have i3:=i2 hz
   have pos:0<digitsVal ds:=Nat.lt_of_lt_of_le (Nat.pow_pos (by decide)) i3
   rw[val_snoc]
   have lt:d-48<10:=by lia
   have t:Nat.toDigits 10 (digitsVal ds)++Nat.toDigits 10 (d-48)=Nat.toDigits 10 (10*digitsVal ds+(d-48)):=Nat.toDigits_append_toDigits (by decide) (by lia) lt
   rw[show digitsVal ds*10+(d-48)=10*digitsVal ds+(d-48) by lia,←t,List.map_append,i1,Nat.toDigits_of_lt_base lt]
   refine⟨?_,fun _=>?_⟩
   ·show ds++[(Nat.digitChar (d-48)).toNat]=ds++[d]
    rw[qj _ lt]
    congr 2
    lia
   ·rw[List.length_append]
    show 10 ^ (ds.length+1-1)≤_
    have dl:1≤ds.length:=List.length_pos_iff.mpr z
    have:10 ^ ds.length=10*10 ^ (ds.length-1):=by
     conv=>lhs;rw[show ds.length=ds.length-1+1 by lia,Nat.pow_succ]
     rw[Nat.mul_comm]
    rw[Nat.add_sub_cancel,this]
    lia
theorem canon_of {cs:List Nat}(h:AllDigits cs) (ne:cs≠[]) (e:(Nat.toDigits 10 (digitsVal cs)).map Char.toNat=cs):Canon cs:=by
 refine⟨h,ne,fun hd=>?_⟩
 by_cases z:digitsVal cs=0
 ·rw[z] at e
  rw[←e]
  rfl
 ·obtain⟨c,r,e1,nz⟩:=head_digits _ z
  rw[e1] at e
  rw[←e] at hd
  have:c.toNat=48:=Option.some.inj hd
  refine absurd ?_ nz
  have:=Char.ofNat_toNat c
  rw[‹c.toNat=48›] at this
  exact this.symm
end Tx
namespace L2
open PySem PySem.Spec PyProof.Rows
def hid (x z y:Str):Str:=if y=x∨y=z then "" else y
def cxD (X:Cx) (scope:Scope) (cl:List (Str×Addr)) (x z:Str) (C:Addr) (s₂:Shared) (H₂:Hp) (fp:List Addr) (aa:List (Addr×Obj)):Cx where
 prog:=X.prog
 w:=X.w
 K:=X.K
 mg:=X.mg
 base:=X.base
 A:=X.A
 N:=x::z::X.N.map (hid x z)
 s₀:=s₂
 H₀:=H₂
 env:=compEnvC scope cl C X.env
 outer:=X.stack
 stack:=X.stack
 ex:=fp
 fn:=fun _=>false
 calm:=X.calm
 pn:=X.pn++aa
 xe:=fun _ _=>False
structure DScope (sc:Scope) (N:List Str) (scope:Scope) (x z:Str):Prop where
 kind:scope.kind=.function
 cell:∀y∈scope.names,y.2≠.cell
 free:∀y∈scope.names,y.2=.free->sc.names.lookup y.1=some .cell∨sc.names.lookup y.1=some .free
 names:∀y∈scope.names,y.2=.local ->scope.names.lookup y.1=some .local
 var:scope.names.lookup x=some .local
 var2:scope.names.lookup z=some .local
 nil:scope.names.lookup ("":Str)=none
 nd:(x::z::N.map (hid x z)).Nodup
 other:∀y∈N.map (hid x z),scope.names.lookup y≠some .local
section
variable {X:Cx}{scope:Scope}{cl:List (Str×Addr)}{x zz:Str}{C D:Addr}{s₂:Shared}{H₂:Hp}{fp:List Addr}{aa:List (Addr×Obj)}{σ:St}
theorem t7 {h₁:Heap}{t':Nat}{its:List Value}{n:Nat}(I:Inv X aa σ H₂ s₂) (S:DScope X.env.scope X.N scope x zz) (hfp:∀b∈fp,cW X aa H₂ b) (hfo:∀b∈fp,∃o,s₂.heap.get? b=some o)
  (hcl:∀y c,cl.lookup y=some c->X.env.cells.lookup y=some c)
  (hcf:∀y∈scope.names,y.2=.free->(cl.lookup y.1).isSome=true) (hD:s₂.heap.objs.size≤D) (hC:s₂.heap.objs.size≤C) (hDC:D≠C) (hns:∃m,h₁.Ns C m) (hd:h₁.get? D=some (aD its n))
  (keep:∀b o,s₂.heap.get? b=some o->h₁.get? b=some o) :
  Inv (cxD X scope cl x zz C s₂ H₂ fp aa) [(D,aD its n)] (none::none::σ) H₂ { s₂ with heap:=h₁,toks:=t' }:=by
 have lk:∀{y:Str}{k:NameKind},(compEnvC scope cl C X.env).kindOf y=some k->∃k',scope.names.lookup y=some k'∧(k'=k∨(k'=.free∧k=.cell)):=fun {y k} h=>eV (scope:=scope) h
 have isfree:∀{y:Str},((compEnvC scope cl C X.env).kindOf y=some .cell∨(compEnvC scope cl C X.env).kindOf y=some .free)->scope.names.lookup y=some .free:=fun {y} h=>by
  rcases h with h|h
  ·obtain⟨k',e1,e2⟩:=lk h
   rcases e2 with z|z
   ·subst z;exact absurd rfl (S.cell _ (PySem.mem_of_lookup e1))
   ·rw[z.1] at e1;exact e1
  ·obtain⟨k',e1,e2⟩:=lk h
   rcases e2 with z|z
   ·rw[z] at e1;exact e1
   ·exact absurd z.2 (by decide)
 have sz:=I.sz
 have new:∀b,s₂.heap.objs.size≤b->b∉frs X.stack:=fun b hb z=>by
  rcases List.mem_cons.mp (I.stkSub b z) with r|r
  ·exact absurd (Nat.lt_of_lt_of_le I.lt hb) (by rw[r];exact Nat.lt_irrefl _)
  ·exact I.nofs hb r
 have neC:∀b o,s₂.heap.get? b=some o->b≠C:=fun b o e=>Nat.ne_of_lt (Nat.lt_of_lt_of_le (Heap.lt_size e) hC)
 refine⟨⟨I.ok.mod,S.kind,I.ok.glob,I.ok.blt,hC,fun y z c h1 h2=>I.ok.inj y z c (hcl y c h1) (hcl z c h2),fun y hy=>?_,fun y c h=>absurd h (by show ¬(false=true);decide),I.ok.hd,I.ok.frames,.inl rfl,fun b hb=>⟨?_,fun y c h=>?_⟩,I.bs,Nat.le_trans I.ok.bsz sz,fun b o e hb=>?_,fun b hb z=>?_,I.stack,I.stkFree⟩,
  rfl,I.bare,Un.kept keep,?_,fun y c h=>?_,I.hok.fresh hC,fun y c h=>I.freeC y c (hcl y c h),fun p hp=>?_,I.hok.kept keep,?_⟩
 ·have e:=isfree hy
  exact Option.isSome_iff_exists.mp (hcf (y,.free) (PySem.mem_of_lookup e) rfl)
 ·obtain⟨o,e⟩:=hfo b hb
  exact neC b o e
 ·exact(hfp b hb).2.2.2.2.1 y c (hcl y c h)
 ·obtain⟨_,_,_,hx,_⟩:=hfp b hb
  rcases hx with r|r
  ·exact I.ok.noex b o e r
  ·exact absurd (Nat.lt_of_lt_of_le (Heap.lt_size (I.ok.bs b o e).1) r) (Nat.lt_irrefl _)
 ·obtain⟨_,hL,hf,_⟩:=hfp b hb
  rcases List.mem_cons.mp (I.stkSub b z) with r|r
  ·exact hL r
  ·exact hf r
 ·obtain⟨m,hm⟩:=hns
  obtain⟨m',_,hl⟩:=I.loc
  refine⟨m,hm,fun i y v e1 e2 e3=>?_⟩
  cases i with
  | zero=>cases (show some (none:Option V)=some (some v) from e2)
  | succ i=>
  cases i with
  | zero=>cases (show some (none:Option V)=some (some v) from e2)
  | succ i=>
   have e1':(X.N.map (hid x zz))[i]?=some y:=e1
   obtain⟨y0,e0,hy⟩:∃y0,X.N[i]?=some y0∧hid x zz y0=y:=by
    rw[List.getElem?_map] at e1'
    exact Option.map_eq_some_iff.mp e1'
   have yy:y0=y:=by
    unfold hid at hy
    split at hy
    ·exfalso
     have q:scope.names.lookup y=none:=by rw[←hy];exact S.nil
     rcases e3 with z|z
     ·obtain⟨k',q1,_⟩:=lk z
      rw[q] at q1;cases q1
     ·rw[isfree z] at q;cases q
    ·exact hy
   rw[yy] at e0
   have e2':σ[i]?=some (some v):=e2
   have fr:scope.names.lookup y=some .free:=by
    rcases e3 with z|z
    ·obtain⟨k',q1,q2⟩:=lk z
     rcases q2 with q2|q2
     ·rw[q2] at q1;exact absurd q1 (S.other y (List.mem_of_getElem? e1'))
     ·exact absurd q2.2 (by decide)
    ·exact isfree z
   have kd:(compEnvC scope cl C X.env).kindOf y=some .cell∨(compEnvC scope cl C X.env).kindOf y=some .free:=by
    rcases e3 with z|z
    ·obtain⟨k',q1,q2⟩:=lk z
     rw[fr] at q1
     cases q1
     rcases q2 with q2|q2
     ·cases q2
     ·exact absurd q2.2 (by decide)
    ·exact z
   have kx:=S.free (y,.free) (PySem.mem_of_lookup fr) rfl
   obtain⟨u,r,q⟩:=hl i y v e0 e2' (.inr kx)
   refine⟨u,r,.inr ⟨kd,?_⟩⟩
   obtain⟨c,hc⟩:=Option.isSome_iff_exists.mp (hcf (y,.free) (PySem.mem_of_lookup fr) rfl)
   refine⟨c,hc,?_⟩
   rcases q with⟨ql,_⟩|⟨_,c',hc',z⟩
   ·have ql':X.env.scope.names.lookup y=some .local :=ql
    rcases kx with kx|kx <;> (rw[ql'] at kx;cases kx)
   ·have:=hcl y c hc
    rw[hc'] at this
    cases this
    obtain⟨o,ho,hd⟩:=z
    exact⟨o,keep _ _ ho,hd⟩
 ·obtain⟨v,o,ho,hd⟩:=I.cell y c (hcl y c h)
  exact⟨v,o,keep _ _ ho,hd⟩
 ·rcases List.mem_append.mp hp with z|z
  ·obtain⟨e,n0,ne,nf,d⟩:=I.pin p z
   refine⟨keep _ _ e,n0,neC _ _ e,fun q=>?_,d⟩
   rcases List.mem_cons.mp (I.stkSub _ q) with r|r
   ·exact ne r
   ·exact nf r
  ·rw[List.mem_singleton.mp z]
   exact⟨hd,I.hok.fresh hD,hDC,new D hD,fun v q=>nomatch q⟩
 ·show σ.length+2=(X.N.map (hid x zz)).length+2
  rw[List.length_map]
  rw[I.len]
theorem vN {h'':Heap}{s':Shared}{H':Hp}{σ':St}{its:List Value}{n:Nat}{ys:List V}(I:Inv X aa σ H₂ s₂) (hfp:∀b∈fp,cW X aa H₂ b) (hD:s₂.heap.objs.size≤D) (hC:s₂.heap.objs.size≤C)
  (J:Inv (cxD X scope cl x zz C s₂ H₂ fp aa) [(D,aD its n)] σ' H' s') (hs:Heap.SameBut C s'.heap h'') (r:av ys its) (hz:ys.length≤sizeLine) :
  Inv X aa σ (upd H' D (.lst ys)) { s' with heap:=h'' }∧H' D=none:=by
 obtain⟨eD,nD,neD,_,_⟩:=J.pin (D,aD its n) (List.mem_append_right _ List.mem_cons_self)
 have kp:∀b,b≠C->h''.get? b=s'.heap.get? b:=fun b hb=>hs.2 b hb
 have neC:∀b o,s₂.heap.get? b=some o->b≠C:=fun b o e=>Nat.ne_of_lt (Nat.lt_of_lt_of_le (Heap.lt_size e) hC)
 have neD':∀b o,s₂.heap.get? b=some o->b≠D:=fun b o e=>Nat.ne_of_lt (Nat.lt_of_lt_of_le (Heap.lt_size e) hD)
 have trC:∀b u,H' b=some u->b≠C:=fun b u e z=>by
  have f:H' C=none:=J.free
  rw[z,f] at e;cases e
 have un:=J.base
 refine⟨I.call' (ch:=fp) J.os ⟨fun b o e m hb hx=>?_,fun b o e m hb hx=>?_,fun b o e m hx=>?_,fun b o e hx=>?_,fun b xs e=>?_,fun b o u e=>?_,fun b ps e=>?_⟩ ?_ J.bare (fun b hb=>?_),nD⟩
 ·exact(kp b (neC b o e)).trans (un.keep b o e m hb hx)
 ·obtain⟨sl,q⟩:=un.slot b o e m hb hx
  exact⟨sl,(kp b (neC b o e)).trans q⟩
 ·rw[ap (neD' b o e)];exact un.free b o e m hx
 ·obtain⟨o',q⟩:=un.there b o e hx
  exact⟨o',(kp b (neC b o e)).trans q⟩
 ·have q:=un.tups b xs e
  rw[ap (au q nD)];exact q
 ·have q:=un.frzs b o u e
  rw[ap (au q nD)];exact q
 ·obtain⟨m,q⟩:=un.tbls b ps e
  exact⟨m,by rw[ap (au q nD)];exact q⟩
 ·intro a o e
  by_cases ha:a=D
  ·subst ha
   rw[ag] at e
   cases e
   exact⟨hz,its,n,r,(kp _ neD).trans eD⟩
  ·rw[ap ha] at e
   refine(J.hok a o e).stay (fun b u hb q=>(kp b ?_).trans q) (fun b q=>by rw[ap (au q nD)];exact q) fun b xs q=>by rw[ap (au q nD)];exact q
   rcases hb with z|z
   ·rw[z];exact trC a o e
   ·exact trC b _ z
 ·obtain⟨_,h2,_,h4,h5,h6⟩:=hfp b hb
  exact⟨h4,h2,h5,h6⟩
end
def yn (J:It) (σ:St) (g:TG) (tt:TT) (te:TE) (Q:VK) (H1:Hp):Prop:=∃W:Nat->Nat->List V->Hp->Prop,(∃m,W 0 m [] H1)∧∀i m ys H2,W i m ys H2->
 (J.stop i H2∧ys.length≤sizeLine∧∀p,H2 p=none->Q (.ref p) (upd H2 p (.lst ys)))∨
 (J.go i H2∧ys.length<sizeLine∧∃N:List V->Hp->Prop,(∀zs H',N zs H'->∃m',m' < m∧W (i+1) m' zs H')∧∀x H3 u v,J.yld i H2 x H3->g x (u::v::σ) H3 fun τ' H4=>∃a b,τ'=some a::some b::σ∧tt τ' H4 fun ok H5=>if ok=true then te τ' H5 fun y H6=>N (ys++[y]) H6 else N ys H5)
def A3 (wi:TI) (g:TG) (tt:TT) (te:TE):TE:=fun σ H Q=>wi σ H fun J H1=>yn J σ g tt te Q H1
section
variable {X:Cx}{scope:Scope}{x zz:Str}{tgt elt iter:Expr}{ifs:List Expr}{pos:Pos}{wi:TI}{g:TG}{tt:TT}{te:TE}
theorem qk (hc:X.calm=true) (S:DScope X.env.scope X.N scope x zz) (hi:PI X (tgt) iter wi)
  (ht:∀(cl:List (Str×Addr)) (C:Addr) (s₂:Shared) (H₂:Hp) (fp:List Addr) (aa:List (Addr×Obj)),PTs (cxD X scope cl x zz C s₂ H₂ fp aa) ifs tt)
  (he:∀(cl:List (Str×Addr)) (C:Addr) (s₂:Shared) (H₂:Hp) (fp:List Addr) (aa:List (Addr×Obj)),PE (cxD X scope cl x zz C s₂ H₂ fp aa) elt te)
  (hg:∀(cl:List (Str×Addr)) (C:Addr) (s₂:Shared) (H₂:Hp) (fp:List Addr) (aa:List (Addr×Obj)),(cxD X scope cl x zz C s₂ H₂ fp aa).N.Nodup->Loc (cxD X scope cl x zz C s₂ H₂ fp aa).env.scope x∧(cxD X scope cl x zz C s₂ H₂ fp aa).env.scope.names.lookup x=some .local ->Loc (cxD X scope cl x zz C s₂ H₂ fp aa).env.scope zz∧(cxD X scope cl x zz C s₂ H₂ fp aa).env.scope.names.lookup zz=some .local ->PG (cxD X scope cl x zz C s₂ H₂ fp aa) tgt g) (hs:∀v,foldedSetIterable iter X.env v=pure v:=by intro _;rfl):PE X (.ListComp elt [⟨tgt,iter,ifs,0⟩] scope pos) (A3 wi g tt te):=by
 intro aa s σ H Q I h
 obtain⟨cl,hcl0,hcl1,hcl2⟩:=eN (scope:=scope) (env:=X.env) (fun y hy hf=>I.ok.has y.1 (S.free y hy hf))
 rw[eval_ListComp]
 refine wpAny_comprehension_free (use:=none) (E:=X.xe) rfl hs hcl0 S.kind S.names (thn (hi aa s σ H _ I h) fun xv s1 h1=>thn h1 fun itv s2 h2=>?_)
 obtain⟨it,fp,tn,J,H2,e,I2,T,st2,f2,W,⟨m0,w0⟩,turn⟩:=h2
 subst e
 refine wpAny_newObj_type (wpAny_newFunctionEnv S.cell (by intro y hy;cases hy) (fun h₁ hns hsb=>?_) S.kind)
 dsimp only at hns hsb ⊢
 generalize hP:s2.heap.push { cls:=.type "list",dict:=none,data:=.seq ([]:List Value).toArray }=P2 at hns hsb ⊢
 have hC:P2.objs.size=s2.heap.objs.size+1:=by rw[←hP,Heap.size_push]
 have hDC:s2.heap.objs.size≠P2.objs.size:=by rw[hC];exact Nat.ne_of_lt (Nat.lt_succ_self _)
 have hCle:s2.heap.objs.size≤P2.objs.size:=by rw[hC];exact Nat.le_succ _
 have old:∀b o,s2.heap.get? b=some o->h₁.get? b=some o:=fun b o e=>by
  have hb:=Heap.lt_size e
  exact hsb.extBut b o (by rw[hC];exact Nat.ne_of_lt (Nat.lt_succ_of_lt hb)) (Heap.get?_push_of_some _ (hP▸Heap.get?_push_of_some _ e))
 have hd:h₁.get? s2.heap.objs.size=some (aD [] 0):=hsb.extBut _ _ hDC (Heap.get?_push_of_some _ (hP▸Heap.get?_push_size _ rfl))
 have fo:∀b∈fp,∃o,s2.heap.get? b=some o:=fun b hb=>by
  obtain⟨o,e,_⟩:=T.obj _ _ st2 b hb
  exact⟨o,e⟩
 have neD:∀b∈fp,b≠s2.heap.objs.size:=fun b hb=>by
  obtain⟨o,e⟩:=fo b hb
  exact Nat.ne_of_lt (Heap.lt_size e)
 have JY:Inv (cxD X scope cl x zz P2.objs.size s2 H2 fp aa) [(s2.heap.objs.size,aD [] 0)] (none::none::σ) H2 { s2 with heap:=h₁,toks:=s2.toks+([]:List (Str×Value)).length }:=
  t7 I2 S f2 fo hcl1 hcl2 (Nat.le_refl _) hCle hDC ⟨_,hns⟩ hd old
 have stat:∀{H':Hp}{its:List Value}{n:Nat},(∀b∈fp,H' b=none)->∀b∈fp,cW (cxD X scope cl x zz P2.objs.size s2 H2 fp aa) [(s2.heap.objs.size,aD its n)] H' b:=fun {H' its n} hn b hb=>by
  obtain⟨_,g1,g2,g3,g4,g5⟩:=f2 b hb
  obtain⟨o,e⟩:=fo b hb
  refine⟨hn b hb,?_,fun z=>?_,.inl hb,fun y c q=>g4 y c (hcl1 y c q),fun p hp=>?_⟩
  ·show b≠P2.objs.size
   exact Nat.ne_of_lt (Nat.lt_of_lt_of_le (Heap.lt_size e) hCle)
  ·rcases List.mem_cons.mp (I2.stkSub b z) with r|r
   ·exact g1 r
   ·exact g2 r
  ·rcases List.mem_append.mp hp with z|z
   ·exact g5 p z
   ·rw[List.mem_singleton.mp z];exact fun q=>neD b hb q.symm
 have nodup:(cxD X scope cl x zz P2.objs.size s2 H2 fp aa).N.Nodup:=S.nd
 have loc:Loc (cxD X scope cl x zz P2.objs.size s2 H2 fp aa).env.scope x:=.inl (lookup_relabel_local S.var)
 have loc2:Loc (cxD X scope cl x zz P2.objs.size s2 H2 fp aa).env.scope zz:=.inl (lookup_relabel_local S.var2)
 have loop:∀s4:Shared,s4={ s2 with heap:=h₁,toks:=s2.toks+([]:List (Str×Value)).length }->
   codeAny (model X.prog X.w) X.A (.compLoop (.ListComp elt [⟨tgt,iter,ifs,0⟩] scope pos) 0 (.ref it) (.ref s2.heap.objs.size) (compEnvC scope cl P2.objs.size X.env))
    (compPost (model X.prog X.w) X.A X.xe none (EP X aa σ Q) (.ref s2.heap.objs.size) P2.objs.size) s4:=by
  rintro s4 rfl
  refine codeAny_loop rfl (fun n s'=>∃i ys its c H' v0 v1,Inv (cxD X scope cl x zz P2.objs.size s2 H2 fp aa) [(s2.heap.objs.size,aD its c)] (v0::v1::σ) H' s'∧tn i s'.heap∧(∀b∈fp,H' b=none)∧av ys its∧W i n ys H') ?_ m0
   ⟨0,[],[],0,H2,none,none,JY,T.keep _ _ _ st2 (fun b _ o e=>old b o e),fun b hb=>(f2 b hb).1,.nil,w0⟩
  rintro n s3 ⟨i,ys,its,c,H3,v0,v1,I3,st3,fr3,rv,w3⟩
  show wpAny _ _ ((compTurn (.ListComp elt [⟨tgt,iter,ifs,0⟩] scope pos) 0 (.ref it) (.ref s2.heap.objs.size) (compEnvC scope cl P2.objs.size X.env)).onRaise (fun z=>do noteFrame z (compEnvC scope cl P2.objs.size X.env);theTreesLotGoes z)) _ _ s3
  refine wpAny_noted ?_
  rw[compTurn_list]
  rcases turn i n ys H3 w3 with⟨stop,hz,qn⟩|⟨go,hz,NN,hNN,step⟩
  ·refine wpAny_bind (wpAny_standAt (wpAny_bind (thn (T.done (cxD X scope cl x zz P2.objs.size s2 H2 fp aa) rfl rfl rfl hc i _ s3 _ H3 _ I3 (stat fr3) st3 stop) fun r s5 hh9=>?_)))
   obtain⟨hr,I5⟩:=hh9
   subst hr
   refine wpAny_pure ?_
   obtain⟨mC,hmC,_⟩:=I5.loc
   refine⟨mC,hmC,fun h'' hs''=>?_⟩
   obtain⟨I6,nD⟩:=vN I2 f2 (Nat.le_refl _) hCle I5 hs'' rv hz
   exact⟨.ref s2.heap.objs.size,_,I6,rfl,qn _ nD⟩
  ·refine wpAny_bind (wpAny_standAt (wpAny_bind (thn (T.item (cxD X scope cl x zz P2.objs.size s2 H2 fp aa) rfl rfl rfl hc i _ s3 _ H3 _ I3 (stat fr3) st3 go) fun r s5 hh9=>?_)))
   obtain⟨u,hr,h5⟩:=hh9
   subst hr
   refine wpAny_bind (thn h5 fun _ s6 hh9=>?_)
   obtain⟨xv,H6,I6,r6,y6,st6,fr6⟩:=hh9
   have I6':=I6.pinned (stat fr6) (T.obj _ _ st6)
   refine wpAny_bind (bU (thn (hg cl P2.objs.size s2 H2 fp aa nodup ⟨loc,lookup_relabel_local S.var⟩ ⟨loc2,lookup_relabel_local S.var2⟩ _ s6 _ H6 xv u _ I6' r6 (step xv H6 v0 v1 y6)) fun _ s7 hh9=>?_))
   obtain⟨σ7,H7,I7,a7,b7,e7,q7⟩:=hh9
   subst e7
   refine wpAny_bind (bU (thn (ht cl P2.objs.size s2 H2 fp aa _ s7 _ H7 _ I7 q7) fun ok s8 hh9=>?_))
   obtain⟨H8,I8,q8⟩:=hh9
   have back:∀{H9:Hp}{s9:Shared},Inv (cxD X scope cl x zz P2.objs.size s2 H2 fp aa) ([(s2.heap.objs.size,aD its c)]++eI fp s6.heap) (some a7::some b7::σ) H9 s9->tn (i+1) s9.heap∧∀b∈fp,H9 b=none:=fun {H9 s9} I9=>by
    refine⟨T.keep _ _ _ st6 fun b hb o e=>(I9.pin (b,o) (List.mem_append_right _ (List.mem_append_right _ (bE hb e)))).1,fun b hb=>?_⟩
    obtain⟨o,e,d⟩:=T.obj _ _ st6 b hb
    exact(I9.pin (b,o) (List.mem_append_right _ (List.mem_append_right _ (bE hb e)))).2.1
   cases ok with
   | false=>
    obtain⟨m',hm,w8⟩:=hNN ys H8 q8
    obtain⟨t8,fr8⟩:=back I8
    exact wpAny_pure ⟨rfl,m',hm,i+1,ys,its,c,H8,_,_,I8.unpinned,t8,fr8,rv,w8⟩
   | true=>
    refine wpAny_bind (wpAny_bind (bU (thn (he cl P2.objs.size s2 H2 fp aa _ s8 _ H8 _ I8 q8) fun yv s9 hh=>ex5 hh fun y H9 I9 r9 q9=>?_)))
    obtain⟨m',hm,w9⟩:=hNN _ _ q9
    obtain⟨t9,fr9⟩:=back I9
    have I9':=I9.unpinned
    obtain⟨eD,nD,neL,nf,_⟩:=I9'.pin (s2.heap.objs.size,aD its c) (List.mem_append_right _ List.mem_cons_self)
    refine wpAny_bind (wpAny_list_append_plain (items:=its.toArray) ⟨c,eD⟩ (fun h10 hp10 hs10=>?_) (by rw[List.size_toArray,←rv.length];exact Nat.le_of_lt hz))
    obtain⟨c',e10⟩:=hp10
    have e10':h10.get? s2.heap.objs.size=some (aD (its++[yv]) c'):=by rw[e10];simp
    have I10:Inv (cxD X scope cl x zz P2.objs.size s2 H2 fp aa) [] (some a7::some b7::σ) H9 { s9 with heap:=h10 }:=by
     have I9e:Inv (cxD X scope cl x zz P2.objs.size s2 H2 fp aa) [] (some a7::some b7::σ) H9 s9:=I9'.pins_of fun p hp=>absurd hp (by simp)
     refine I9e.turned (t':=s9.toks) (it:=s2.heap.objs.size) (fun b o hb q=>(hs10.2 b hb).trans q) nD neL (.inr (Nat.le_refl _)) (fun y cc q=>?_) fun p hp=>?_
     ·obtain⟨v,z⟩:=I2.cell y cc (hcl1 y cc q)
      exact Nat.ne_of_lt z.lt
     ·have hp':p∈X.pn++aa:=by
       have z:p∈(X.pn++aa)++[]:=hp
       simpa using z
      exact Nat.ne_of_lt (Heap.lt_size (I2.pin p hp').1)
    have I11:Inv (cxD X scope cl x zz P2.objs.size s2 H2 fp aa) [(s2.heap.objs.size,aD (its++[yv]) c')] (some a7::some b7::σ) H9 { s9 with heap:=h10 }:=
     I10.pins_of fun p hp=>by rw[List.mem_singleton.mp hp];exact⟨e10',nD,neL,nf,fun v q=>nomatch q⟩
    refine wpAny_pure (wpAny_pure ⟨rfl,m',hm,i+1,ys++[y],its++[yv],c',H9,_,_,I11,?_,fr9,rv.append (.cons r9 .nil),w9⟩)
    exact T.keep _ _ _ t9 fun b hb o q=>(hs10.2 b (neD b hb)).trans q
 exact codeAny_compStart_list (loop _ rfl) (T.self X.A 0 _ _ _ (T.keep _ _ _ st2 (fun b _ o e=>old b o e)) (loop _ rfl))
end
end L2
namespace L2
open PySem PySem.Spec PyProof.Rows
section
variable {P:Program}{w:World}{K:W.Frag}{mg:Str->Option Value}{base:Heap}{N:List Str}{qual:Str}{sc:Scope}{f:Addr}{cd:Value}{A:Around}{outer:List Env}{s₁:Shared}{H₁:Hp}{E:XK}
 {X:Cx}{scope:Scope}{x:Str}{elt iter:Expr}{ifs:List Expr}{px pos:Pos}{wi:TI}{tt:TT}{te:TE}
theorem qm (hX:X=bw (CX1 P w) P w K mg base N qual sc f cd A outer s₁ H₁ E) (hc:X.calm=true) (S:CScope X.env.scope X.N scope x) (hi:PI X (.Name x px) iter wi)
  (ht:∀(cl:List (Str×Addr)) (C:Addr) (s₂:Shared) (H₂:Hp) (fp:List Addr) (aa:List (Addr×Obj)),PTs (cxC X scope cl x C s₂ H₂ fp aa) ifs tt)
  (he:∀(cl:List (Str×Addr)) (C:Addr) (s₂:Shared) (H₂:Hp) (fp:List Addr) (aa:List (Addr×Obj)),bI (CX1 P w) ((cxC X scope cl x C s₂ H₂ fp aa).wish (xeC X C)) (fun _=>E)->PE ((cxC X scope cl x C s₂ H₂ fp aa).wish (xeC X C)) elt te)
  (hN:X.N.Nodup) (hs:∀v,foldedSetIterable iter X.env v=pure v:=by intro _;rfl):PE X (.ListComp elt [⟨.Name x px,iter,ifs,0⟩] scope pos) (nX wi tt te):=by
 intro aa s σ H Q I h
 obtain⟨cl,hcl0,hcl1,hcl2⟩:=eN (scope:=scope) (env:=X.env) (fun y hy hf=>I.ok.has y.1 (S.free y hy hf))
 rw[eval_ListComp]
 refine wpAny_comprehension_free (use:=none) (E:=X.xe) rfl hs hcl0 S.kind S.names (thn (hi aa s σ H _ I h) fun xv s1 h1=>thn h1 fun itv s2 h2=>?_)
 obtain⟨it,fp,tn,J,H2,e,I2,T,st2,f2,W,⟨m0,w0⟩,turn⟩:=h2
 subst e
 refine wpAny_newObj_type (wpAny_newFunctionEnv S.cell (by intro y hy;cases hy) (fun h₁ hns hsb=>?_) S.kind)
 dsimp only at hns hsb ⊢
 generalize hP:s2.heap.push { cls:=.type "list",dict:=none,data:=.seq ([]:List Value).toArray }=P2 at hns hsb ⊢
 have hC:P2.objs.size=s2.heap.objs.size+1:=by rw[←hP,Heap.size_push]
 have hDC:s2.heap.objs.size≠P2.objs.size:=by rw[hC];exact Nat.ne_of_lt (Nat.lt_succ_self _)
 have hCle:s2.heap.objs.size≤P2.objs.size:=by rw[hC];exact Nat.le_succ _
 have old:∀b o,s2.heap.get? b=some o->h₁.get? b=some o:=fun b o e=>by
  have hb:=Heap.lt_size e
  exact hsb.extBut b o (by rw[hC];exact Nat.ne_of_lt (Nat.lt_succ_of_lt hb)) (Heap.get?_push_of_some _ (hP▸Heap.get?_push_of_some _ e))
 have hd:h₁.get? s2.heap.objs.size=some (aD [] 0):=hsb.extBut _ _ hDC (Heap.get?_push_of_some _ (hP▸Heap.get?_push_size _ rfl))
 have fo:∀b∈fp,∃o,s2.heap.get? b=some o:=fun b hb=>by
  obtain⟨o,e,_⟩:=T.obj _ _ st2 b hb
  exact⟨o,e⟩
 have neD:∀b∈fp,b≠s2.heap.objs.size:=fun b hb=>by
  obtain⟨o,e⟩:=fo b hb
  exact Nat.ne_of_lt (Heap.lt_size e)
 have JY:Inv (cxC X scope cl x P2.objs.size s2 H2 fp aa) [(s2.heap.objs.size,aD [] 0)] (none::σ) H2 { s2 with heap:=h₁,toks:=s2.toks+([]:List (Str×Value)).length }:=
  gf I2 S f2 fo hcl1 hcl2 (Nat.le_refl _) hCle hDC ⟨_,hns⟩ hd old
 have stat:∀{H':Hp}{its:List Value}{n:Nat},(∀b∈fp,H' b=none)->∀b∈fp,cW (cxC X scope cl x P2.objs.size s2 H2 fp aa) [(s2.heap.objs.size,aD its n)] H' b:=fun {H' its n} hn b hb=>by
  obtain⟨_,g1,g2,g3,g4,g5⟩:=f2 b hb
  obtain⟨o,e⟩:=fo b hb
  refine⟨hn b hb,?_,fun z=>?_,.inl hb,fun y c q=>g4 y c (hcl1 y c q),fun p hp=>?_⟩
  ·show b≠P2.objs.size
   exact Nat.ne_of_lt (Nat.lt_of_lt_of_le (Heap.lt_size e) hCle)
  ·rcases List.mem_cons.mp (I2.stkSub b z) with r|r
   ·exact g1 r
   ·exact g2 r
  ·rcases List.mem_append.mp hp with z|z
   ·exact g5 p z
   ·rw[List.mem_singleton.mp z];exact fun q=>neD b hb q.symm
 have pc:bI (CX1 P w) ((cxC X scope cl x P2.objs.size s2 H2 fp aa).wish (xeC X P2.objs.size)) (fun _=>E):=by
  subst hX
  exact nq I2 f2 hCle
 have nodup:(cxC X scope cl x P2.objs.size s2 H2 fp aa).N.Nodup:=List.nodup_cons.mpr ⟨S.fresh,hN⟩
 have loc:Loc (cxC X scope cl x P2.objs.size s2 H2 fp aa).env.scope x:=.inl (lookup_relabel_local S.var)
 have loop:∀s4:Shared,s4={ s2 with heap:=h₁,toks:=s2.toks+([]:List (Str×Value)).length }->
   codeAny (model X.prog X.w) X.A (.compLoop (.ListComp elt [⟨.Name x px,iter,ifs,0⟩] scope pos) 0 (.ref it) (.ref s2.heap.objs.size) (compEnvC scope cl P2.objs.size X.env))
    (compPost (model X.prog X.w) X.A X.xe none (EP X aa σ Q) (.ref s2.heap.objs.size) P2.objs.size) s4:=by
  rintro s4 rfl
  refine codeAny_loop rfl (fun n s'=>∃i ys its c H' v0,Inv (cxC X scope cl x P2.objs.size s2 H2 fp aa) [(s2.heap.objs.size,aD its c)] (v0::σ) H' s'∧tn i s'.heap∧(∀b∈fp,H' b=none)∧av ys its∧W i n ys H') ?_ m0
   ⟨0,[],[],0,H2,none,JY,T.keep _ _ _ st2 (fun b _ o e=>old b o e),fun b hb=>(f2 b hb).1,.nil,w0⟩
  rintro n s3 ⟨i,ys,its,c,H3,v0,I3,st3,fr3,rv,w3⟩
  show wpAny _ _ ((compTurn (.ListComp elt [⟨.Name x px,iter,ifs,0⟩] scope pos) 0 (.ref it) (.ref s2.heap.objs.size) (compEnvC scope cl P2.objs.size X.env)).onRaise (fun z=>do noteFrame z (compEnvC scope cl P2.objs.size X.env);theTreesLotGoes z)) _ _ s3
  refine wpAny_noted ?_
  rw[compTurn_list]
  rcases turn i n ys H3 w3 with⟨stop,hz,qn⟩|⟨go,hz,NN,hNN,step⟩
  ·refine wpAny_bind (wpAny_standAt (wpAny_bind (thn (T.done (cxC X scope cl x P2.objs.size s2 H2 fp aa) rfl rfl rfl hc i _ s3 _ H3 _ I3 (stat fr3) st3 stop) fun r s5 ⟨hr,I5⟩=>?_)))
   subst hr
   refine wpAny_pure ?_
   obtain⟨mC,hmC,_⟩:=I5.loc
   refine⟨mC,hmC,fun h'' hs''=>?_⟩
   obtain⟨I6,nD⟩:=ib I2 f2 (Nat.le_refl _) hCle I5 hs'' rv hz
   exact⟨.ref s2.heap.objs.size,_,I6,rfl,qn _ nD⟩
  ·refine wpAny_bind (wpAny_standAt (wpAny_bind (thn (T.item (cxC X scope cl x P2.objs.size s2 H2 fp aa) rfl rfl rfl hc i _ s3 _ H3 _ I3 (stat fr3) st3 go) fun r s5 ⟨u,hr,h5⟩=>?_)))
   subst hr
   refine wpAny_bind (thn h5 fun _ s6 ⟨xv,H6,I6,r6,y6,st6,fr6⟩=>?_)
   have I6':=I6.pinned (stat fr6) (T.obj _ _ st6)
   refine wpAny_bind (wpAny_assign_Name (dY (i:=0) I6' nodup rfl loc r6 (fun s7 I7=>?_) (.inr (lookup_relabel_local S.var))))
   have q7:=step xv H6 y6
   refine wpAny_bind (bU (thn (ht cl P2.objs.size s2 H2 fp aa _ s7 _ H6 _ I7 q7) fun ok s8 ⟨H8,I8,q8⟩=>?_))
   have back:∀{H9:Hp}{s9:Shared},Inv (cxC X scope cl x P2.objs.size s2 H2 fp aa) ([(s2.heap.objs.size,aD its c)]++eI fp s6.heap) (some xv::σ) H9 s9->tn (i+1) s9.heap∧∀b∈fp,H9 b=none:=fun {H9 s9} I9=>by
    refine⟨T.keep _ _ _ st6 fun b hb o e=>(I9.pin (b,o) (List.mem_append_right _ (List.mem_append_right _ (bE hb e)))).1,fun b hb=>?_⟩
    obtain⟨o,e,d⟩:=T.obj _ _ st6 b hb
    exact(I9.pin (b,o) (List.mem_append_right _ (List.mem_append_right _ (bE hb e)))).2.1
   cases ok with
   | false=>
    obtain⟨m',hm,w8⟩:=hNN ys H8 q8
    obtain⟨t8,fr8⟩:=back I8
    exact wpAny_pure ⟨rfl,m',hm,i+1,ys,its,c,H8,_,I8.unpinned,t8,fr8,rv,w8⟩
   | true=>
    refine wpAny_bind (wpAny_bind (wpAny_mono (he cl P2.objs.size s2 H2 fp aa pc _ s8 _ H8 _ (I8.wish _) q8) (fun yv s9 ⟨y,H9,I9w,r9,q9⟩=>?_) (fun _ _ z=>z)))
    have I9:=I9w.unwish
    obtain⟨m',hm,w9⟩:=hNN _ _ q9
    obtain⟨t9,fr9⟩:=back I9
    have I9':=I9.unpinned
    obtain⟨eD,nD,neL,nf,_⟩:=I9'.pin (s2.heap.objs.size,aD its c) (List.mem_append_right _ List.mem_cons_self)
    refine wpAny_bind (wpAny_list_append_plain (items:=its.toArray) ⟨c,eD⟩ (fun h10 hp10 hs10=>?_) (by rw[List.size_toArray,←rv.length];exact Nat.le_of_lt hz))
    obtain⟨c',e10⟩:=hp10
    have e10':h10.get? s2.heap.objs.size=some (aD (its++[yv]) c'):=by rw[e10];simp
    have I10:Inv (cxC X scope cl x P2.objs.size s2 H2 fp aa) [] (some xv::σ) H9 { s9 with heap:=h10 }:=by
     have I9e:Inv (cxC X scope cl x P2.objs.size s2 H2 fp aa) [] (some xv::σ) H9 s9:=I9'.pins_of fun p hp=>absurd hp (by simp)
     refine I9e.turned (t':=s9.toks) (it:=s2.heap.objs.size) (fun b o hb q=>(hs10.2 b hb).trans q) nD neL (.inr (Nat.le_refl _)) (fun y cc q=>?_) fun p hp=>?_
     ·obtain⟨v,z⟩:=I2.cell y cc (hcl1 y cc q)
      exact Nat.ne_of_lt z.lt
     ·have hp':p∈X.pn++aa:=by
       have z:p∈(X.pn++aa)++[]:=hp
       simpa using z
      exact Nat.ne_of_lt (Heap.lt_size (I2.pin p hp').1)
    have I11:Inv (cxC X scope cl x P2.objs.size s2 H2 fp aa) [(s2.heap.objs.size,aD (its++[yv]) c')] (some xv::σ) H9 { s9 with heap:=h10 }:=
     I10.pins_of fun p hp=>by rw[List.mem_singleton.mp hp];exact⟨e10',nD,neL,nf,fun v q=>nomatch q⟩
    refine wpAny_pure (wpAny_pure ⟨rfl,m',hm,i+1,ys++[y],its++[yv],c',H9,_,I11,?_,fr9,rv.append (.cons r9 .nil),w9⟩)
    exact T.keep _ _ _ t9 fun b hb o q=>(hs10.2 b (neD b hb)).trans q
 exact codeAny_compStart_list (loop _ rfl) (T.self X.A 0 _ _ _ (T.keep _ _ _ st2 (fun b _ o e=>old b o e)) (loop _ rfl))
end
section
variable {tt:TT}{te:TE}{σ:St}{H:Hp}{Q:VK}
theorem qo {z:Str}(Pv:Nat->List V->Hp->Prop) (h0:Pv 0 [] H) (hl:∀i ys H,i≤z.cps.size->Pv i ys H->ys.length≤i) (hz:z.cps.size≤sizeLine)
  (hs:∀i c ys H,z.cps[i]?=some c->Pv i ys H->tt (some (.str (sg c))::σ) H fun b H4=>if b=true then te (some (.str (sg c))::σ) H4 fun y H5=>Pv (i+1) (ys++[y]) H5 else Pv (i+1) ys H4)
  (hd:∀ys H p,Pv z.cps.size ys H->H p=none->Q (.ref p) (upd H p (.lst ys))):jq (Its z) σ tt te Q H:=by
 refine⟨fun i m ys H=>m=z.cps.size-i∧i≤z.cps.size∧Pv i ys H,⟨z.cps.size,by simp,Nat.zero_le _,h0⟩,?_⟩
 rintro i m ys H2 ⟨rfl,hi,p⟩
 have hn:=hl i ys H2 hi p
 by_cases hlt:i<z.cps.size
 ·refine .inr ⟨hlt,by lia,Pv (i+1),fun zs H' p'=>⟨z.cps.size-(i+1),by lia,rfl,hlt,p'⟩,fun x H3 y=>?_⟩
  obtain⟨e,c,ec,y⟩:=y
  subst e y
  exact hs i c ys _ ec p
 ·have e:i=z.cps.size:=by lia
  exact .inl ⟨e,by lia,fun b hb=>hd ys H2 b (e▸p) hb⟩
end
end L2
namespace Ord
open PySem L2 Mx
abbrev lu:Stmt:=top 41
abbrev ma:Stmt:=top 40
abbrev jI:Stmt:=top 39
structure TxT (K:W.Frag) (mg:Str->Option Value) (CO CT:Addr):Prop where
 t:TxB K mg CO
 bt:OwnX K mg "BadText" CT
 fig:∃t,mg "FIGURES"=some (.str "0123456789" t)
 most:∃t,mg "MOST_FIGURES"=some (.int 15 t)
structure NumT (z:Str):Prop where
 lo:1≤z.length
 hi:z.length≤15
 cn:Tx.Canon z.cps.toList
abbrev bW (z:Str):Int:=((NumText.digitsVal z.cps.toList:Nat):Int)
abbrev dM:List Nat:=("0123456789":Str).cps.toList
theorem iy (c:Nat):c∈dM↔48≤c∧c≤57:=by
 have e:dM=[48,49,50,51,52,53,54,55,56,57]:=by decide +kernel
 rw[e]
 simp only[List.mem_cons,List.not_mem_nil,or_false]
 omega
section
variable {P:Program}{w:World}{K:W.Frag}{mg:Str->Option Value}{base:Heap}{CO CT:Addr}
def sy (CT:Addr):Sp:=fun vs H Q E=>∃z:Str,vs=[.str z]∧z.length≤100000∧(NumT z->∀H',ar H H'->Q (.int (bW z)) H')∧(¬NumT z->∀H',ar H H'->E (.ref CT) none H')
theorem sA:FnScope ["text"] ["text"] (am lu):={}
theorem xJ {f:Addr}{fd:FuncData}(F:Fun K "read_number" "read_number" lu f fd) (TT:TxT K mg CO CT):FnOk P w K mg base (CX1 P w) 1 f fd ["text"] (sy CT):=by
 have T:=TT.t
 obtain⟨tf,mf⟩:=TT.fig
 obtain⟨tm,mm⟩:=TT.most
 refine F.okX sA (fun vs H Q E h=>?_) (fun X cdv A outer s H vs Q E hX hp hra hr h=>?_)
 ·obtain⟨z,rfl,_⟩:=h
  rfl
 obtain⟨z,rfl,hz,zg,zb⟩:=h
 subst hX
 refine⟨_,af (aQ (bV (hR kC kC ao (aw eM rfl T.t.len bM (ac (pv 0) ae)) (bj (v:=.int 15) rfl mm ⟨tm,rfl⟩))) (ai (bp rfl rfl TT.bt hra (ac aE ae))) aB)
  (af (aQ (bV (cA (aw (im rfl) rfl T.t.all nZ (ac (eB rfl (show CScope (am lu) ["text"] _ _ from by constructor <;> decide +kernel) (vM (pv 0)) (fun _ _ _ _ _ _=>cw)
    (fun cl C s₂ H₂ fp aa=>dA my (pv 0) (bj (v:=.str "0123456789") rfl mf ⟨tf,rfl⟩) rfl) sA.nd) ae)))) (ai (bp rfl rfl TT.bt hra (ac aE ae))) aB)
  (af (aQ (PW.pt (uC (aI dz (bT (show IxR _ wH from uP) (pv 0) ao (fun _ _=>rfl)) aE (aM _)) (rC (aI x8 (aw eM rfl T.t.len bM (ac (pv 0) ae)) ao (aM _))))) (ai (bp rfl rfl TT.bt hra (ac aE ae))) aB)
  (ai (aL (aZ fF rfl T.t.int nY (ac (pv 0) ae)))))),?_⟩
 have hz':z.length≤sizeLine:=by rw[sizeLine_eq];lia
 have bad:∀{x:Str}{H'},ar H H'->¬NumT z->1≤sizeLine∧E (.ref CT) none H':=fun s' n=>⟨by decide,zb n _ s'⟩
 refine⟨_,rfl,z,rfl,hz',_,_,rfl,rfl,_,rfl,?_⟩
 by_cases c1:1≤z.length
 case neg=>
  rw[decide_eq_false (show ¬(1:Int)≤(z.length:Int) from by lia)]
  refine aO ⟨_,rfl,aG ?_⟩
  exact bad (x:=z) (ar.refl _) fun n=>c1 n.lo
 rw[decide_eq_true (show(1:Int)≤(z.length:Int) from by lia)]
 refine aG ⟨_,_,rfl,rfl,_,rfl,?_⟩
 by_cases c2:z.length≤15
 case neg=>
  rw[decide_eq_false (show ¬(z.length:Int)≤15 from by lia)]
  refine aG ?_
  exact bad (x:=z) (ar.refl _) fun n=>c2 n.hi
 rw[decide_eq_true (show(z.length:Int)≤15 from by lia)]
 refine aO ?_
 have el:z.cps.size=z.length:=rfl
 refine⟨_,rfl,z,rfl,qo (z:=z) (fun j ys H'=>H'=H∧ys=((z.cps.toList.take j).map fun c=>decide (c∈dM)).map V.bl) ⟨rfl,rfl⟩ ?_ (by lia) ?_ ?_⟩
 ·rintro i ys H' hi ⟨_,rfl⟩
  rw[List.length_map,List.length_map,List.length_take]
  lia
 ·rintro i c ys H' hc ⟨rfl,rfl⟩
  refine goT (aG ⟨_,rfl,_,_,rfl,rfl,rfl,?_⟩)
  have hc':z.cps.toList[i]?=some c:=by rw[←hc];simp
  rw[aR hc',List.map_append,List.map_append]
  congr 1
  show [V.bl _]=[V.bl (decide (c∈dM))]
  rw[show(sg c)=(⟨#[c]⟩:Str) from rfl,StrLaws.found_one]
 ·rintro ys H' p ⟨rfl,rfl⟩ hp
  have eL:z.cps.toList.take z.cps.size=z.cps.toList:=List.take_of_length_le (by simp)
  rw[eL]
  have s1:=ak hp (.lst ((z.cps.toList.map fun c=>decide (c∈dM)).map V.bl))
  generalize hH:(upd H' p (.lst ((z.cps.toList.map fun c=>decide (c∈dM)).map V.bl)))=H1 at s1 ⊢
  refine⟨p,_,rfl,by rw[←hH];exact SqL.of ag,_,rfl,?_⟩
  by_cases c3:NumText.AllDigits z.cps.toList
  case neg=>
   rw[show((z.cps.toList.map fun c=>decide (c∈dM)).all id)=false from by
    rw[List.all_map]
    cases h:(z.cps.toList.all (id∘fun c=>decide (c∈dM))) with
    | false=>rfl
    | true=>exact absurd (fun c hc=>(iy c).mp (of_decide_eq_true (List.all_eq_true.mp h c hc))) c3]
   refine aG ?_
   exact bad (x:=z) s1 fun n=>c3 n.cn.dg
  rw[show((z.cps.toList.map fun c=>decide (c∈dM)).all id)=true from by
   rw[List.all_map]
   exact List.all_eq_true.mpr fun c hc=>decide_eq_true ((iy c).mpr (c3 c hc))]
  refine aO ?_
  have zl:z.cps.toList.length=z.length:=by rw[Array.length_toList];rfl
  obtain⟨c0,r0,ec⟩:∃c0 r0,z.cps.toList=c0::r0:=by
   cases h:z.cps.toList with
   | nil=>rw[h] at zl;have:(0:Nat)=z.length:=zl;lia
   | cons a b=>exact⟨a,b,rfl⟩
  have fin:∀n:NumT z,∃(z':Str) (m:Int),[V.str z]=[V.str z']∧intText? z'=some m∧z'.length≤640∧Q (V.int m) H1:=fun n=>
   ⟨z,_,rfl,intText_digits c3 (by rw[ec];exact List.cons_ne_nil _ _) (by lia),by lia,zg n H1 s1⟩
  refine⟨_,rfl,z,0,c0,rfl,rfl,hz',by rw[ec];exact eQ,rfl,_,rfl,?_⟩
  by_cases c4:c0=48
  case neg=>
   have n:NumT z:=⟨c1,c2,c3,by rw[ec];exact List.cons_ne_nil _ _,fun h=>absurd (by rw[ec] at h;exact Option.some.inj h) c4⟩
   rw[decide_eq_false fun h=>c4 (by
    have:=congrArg (fun x:Str=>x.cps.toList) (V.str.inj h)
    have e:(("0":Str)).cps.toList=[48]:=by decide +kernel
    rw[e] at this
    exact(List.cons.inj this).1)]
   exact aO (aO ⟨_,rfl,fin n⟩)
  subst c4
  rw[decide_eq_true (show V.str (⟨#[48]⟩:Str)=V.str "0" from congrArg V.str (by decide +kernel))]
  refine aG ⟨_,rfl,z,rfl,hz',_,_,rfl,rfl,_,rfl,?_⟩
  by_cases c5:z.length=1
  ·have n:NumT z:=⟨c1,c2,c3,by rw[ec];exact List.cons_ne_nil _ _,fun _=>zl.trans c5⟩
   rw[decide_eq_false (show ¬(1:Int)<(z.length:Int) from by lia)]
   exact aO ⟨_,rfl,fin n⟩
  ·rw[decide_eq_true (show(1:Int)<(z.length:Int) from by lia)]
   refine aG ?_
   exact bad (x:=z) s1 fun n=>c5 (zl.symm.trans (n.cn.hd (by rw[ec];rfl)))
end
end Ord
namespace Ord
open PySem L2 Mx
def cY (c:Nat) (z:Str) (d:Int×Int):Prop:=∃a b:Str,Txt.split z (sg c)=[a,b]∧NumT a∧NumT b∧d=(bW a,bW b)
section
variable {P:Program}{w:World}{K:W.Frag}{mg:Str->Option Value}{base:Heap}{CO CT:Addr}
abbrev NNi:List Str:=["text","sign","parts"]
def j7 (K:W.Frag) (CT:Addr):Sp:=fun vs H Q E=>∃(z:Str) (c:Nat),vs=[.str z,.str (sg c)]∧z.length≤100000∧
 (∀d,cY c z d->∀(p:Addr) (H':Hp),ar H H'->H' p=some (.tup [.int d.1,.int d.2])->Q (.ref p) H')∧((∀d,¬cY c z d)->∀H',ar H H'->E (.ref CT) none H')
theorem qp:FnScope NNi ["text","sign"] (am ma):={}
theorem vO {f:Addr}{fd:FuncData}(F:Fun K "numbers_in" "numbers_in" ma f fd) (TT:TxT K mg CO CT) (WR:Df P w K mg base (CX1 P w) 1 "read_number" ["text"] (sy CT)):FnOk P w K mg base (CX1 P w) 2 f fd ["text","sign"] (j7 K CT):=by
 have T:=TT.t
 refine F.okX qp (fun vs H Q E h=>?_) (fun X cdv A outer s H vs Q E hX hp hra hr h=>?_)
 ·obtain⟨z,c,rfl,_⟩:=h
  rfl
 obtain⟨z,c,rfl,hz,zg,zb⟩:=h
 subst hX
 refine⟨_,af (ay (i:=2) qp.nd rfl (lc rfl) (bP PySem.F.plainAttrs_str PySem.F.slot_str_split PySem.F.type_str_split dw (pv 0) (ac (pv 1) ae)))
  (af (aQ (aI fm (aw aN rfl T.t.len bM (ac (pv 2) ae)) ao (aM _)) (ai (bp rfl rfl TT.bt hra (ac aE ae))) aB)
  (ai (aL (eK (ac (aF WR hr rfl hp (ac (bT (show IxR _ (dJ K) from bA) (pv 2) ao (fun _ _=>rfl)) ae)) (ac (aF WR hr rfl hp (ac (bT (show IxR _ (dJ K) from bA) (pv 2) ao (fun _ _=>rfl)) ae)) ae)))))),?_⟩
 have hz':z.length+2≤sizeLine:=by rw[sizeLine_eq];lia
 refine⟨_,rfl,rfl,_,rfl,z,sg c,rfl,rfl,rfl,hz',fun l hl=>?_⟩
 have s1:=ak hl (.lst ((Txt.split z (sg c)).map V.str))
 have h1:(upd H l (.lst ((Txt.split z (sg c)).map V.str))) l=some (.lst ((Txt.split z (sg c)).map V.str)):=ag
 generalize (upd H l (.lst ((Txt.split z (sg c)).map V.str)))=H1 at s1 h1 ⊢
 refine⟨_,rfl,l,_,rfl,.inl (SqL.of h1),rfl,_,rfl,?_⟩
 rw[List.length_map]
 by_cases c2:(Txt.split z (sg c)).length=2
 case neg=>
  rw[decide_eq_false fun h=>c2 (by have:=V.int.inj h;lia)]
  refine aG ⟨by show 1≤sizeLine;decide,zb (fun d ⟨a,b,e,_⟩=>c2 (by rw[e];rfl)) H1 s1⟩
 rw[decide_eq_true (show V.int (((Txt.split z (sg c)).length:Nat):Int)=V.int 2 from by rw[c2];rfl)]
 refine aO ?_
 obtain⟨a,b,e⟩:∃a b,Txt.split z (sg c)=[a,b]:=by
  match h:Txt.split z (sg c),c2 with
  | [a,b],_=>exact⟨a,b,rfl⟩
 rw[e] at h1
 have la:a.length≤100000:=Nat.le_trans (PyProof.Rows.part_short (x:=z) (y:=sg c) (by rw[e];simp)) hz
 have lb:b.length≤100000:=Nat.le_trans (PyProof.Rows.part_short (x:=z) (y:=sg c) (by rw[e];simp)) hz
 refine⟨_,rfl,l,_,0,.str a,rfl,rfl,SqL.of h1,eQ,a,rfl,la,fun na H2 s2=>?_,fun na H2 s2=>?_⟩
 ·refine⟨_,rfl,l,_,1,.str b,rfl,rfl,SqL.of (s2 _ _ h1),br (j:=1) rfl,b,rfl,lb,fun nb H3 s3=>?_,fun nb H3 s3=>?_⟩
  ·refine⟨by show 2≤sizeLine;decide,fun p hp=>?_⟩
   exact zg _ ⟨a,b,e,na,nb,rfl⟩ p _ (s1.trans (s2.trans (s3.trans (ak hp _)))) ag
  ·exact zb (fun d ⟨a',b',e',_,nb',_⟩=>nb (by rw[e] at e';cases e';exact nb')) H3 (s1.trans (s2.trans s3))
 ·exact zb (fun d ⟨a',b',e',na',_,_⟩=>na (by rw[e] at e';cases e';exact na')) H2 (s1.trans s2)
end
end Ord
namespace Ord
open PySem L2 Mx
theorem fL:(":":Str)=sg 58:=by decide +kernel
theorem dF:(" ":Str)=sg 32:=by decide +kernel
theorem fE:("\n":Str)=sg 10:=by decide +kernel
def fK (z:Str) (r:Bk.Room):Prop:=Paired (cY 58) (Txt.split z (sg 32)) r
section
variable {P:Program}{w:World}{K:W.Frag}{mg:Str->Option Value}{base:Heap}{CO CT:Addr}
def qt (K:W.Frag) (CT:Addr):Sp:=fun vs H Q E=>∃z:Str,vs=[.str z]∧z.length≤100000∧
 (∀r,fK z r->∀(x:V) (H':Hp),ar H H'->bg K H' x r->Q x H')∧((∀r,¬fK z r)->∀H',ar H H'->E (.ref CT) none H')
theorem qu:FnScope ["row"] ["row"] (am jI):={}
theorem vP {f:Addr}{fd:FuncData}(F:Fun K "read_room" "read_room" jI f fd) (TT:TxT K mg CO CT) (WN:Df P w K mg base (CX1 P w) 2 "numbers_in" ["text","sign"] (j7 K CT)):FnOk P w K mg base (CX1 P w) 3 f fd ["row"] (qt K CT):=by
 have T:=TT.t
 refine F.okX qu (fun vs H Q E h=>?_) (fun X cdv A outer s H vs Q E hX hp hra hr h=>?_)
 ·obtain⟨z,rfl,_⟩:=h
  rfl
 obtain⟨z,rfl,hz,zg,zb⟩:=h
 subst hX
 refine⟨_,ai (aL (aZ dS rfl T.t.tuple eE (ac (qm rfl rfl (show CScope (am jI) ["row"] _ _ from by constructor <;> decide +kernel)
  (cg (bP PySem.F.plainAttrs_str PySem.F.slot_str_split PySem.F.type_str_split dw (pv 0) (ac aE ae))) (fun _ _ _ _ _ _=>cw)
  (fun cl C s₂ H₂ fp aa pc=>aF WN hr rfl pc (ac (pv 0) (ac aE ae))) qu.nd) ae))),?_⟩
 have hz':z.length+2≤sizeLine:=by rw[sizeLine_eq];lia
 refine⟨_,rfl,rfl,z,sg 32,rfl,by rw[←dF],rfl,hz',fun l hl=>?_⟩
 have s1:=ak hl (.lst ((Txt.split z (sg 32)).map V.str))
 have h1:(upd H l (.lst ((Txt.split z (sg 32)).map V.str))) l=some (.lst ((Txt.split z (sg 32)).map V.str)):=ag
 generalize (upd H l (.lst ((Txt.split z (sg 32)).map V.str)))=H1 at s1 h1 ⊢
 have pl:=PyProof.Rows.split_le z (sg 32)
 refine⟨l,rfl,⟨_,SqL.of h1⟩,eW (K:=K) (a:=l) (xs:=(Txt.split z (sg 32)).map V.str) (fun j us H3=>ar H1 H3∧∃ds,Paired (cY 58) ((Txt.split z (sg 32)).take j) ds∧Paired (dU K H3) us ds) ⟨ar.refl _,[],.nil,.nil⟩ ?_ (by rw[List.length_map];lia) ?_ ?_⟩
 ·rintro j us H3 _ ⟨s3,ds,p1,p2⟩
  have l1:=p1.length
  have l2:=p2.length
  rw[List.length_take] at l1
  exact⟨SqL.of (s3 _ _ h1),by lia⟩
 ·rintro j x us H3 hx ⟨s3,ds,p1,p2⟩
  rw[List.getElem?_map] at hx
  cases hd:(Txt.split z (sg 32))[j]? with
  | none=>rw[hd] at hx;cases hx
  | some d=>
   rw[hd] at hx
   cases hx
   have ld:d.length≤100000:=Nat.le_trans (PyProof.Rows.part_short (x:=z) (y:=sg 32) (List.mem_of_getElem? hd)) hz
   refine goT (aG ⟨_,rfl,d,58,by rw[←fL],ld,fun e pe p H4 s4 h4=>?_,fun no H4 s4=>?_⟩)
   ·refine⟨s3.trans s4,ds++[e],?_,cN (aJ (fun _ _ q=>q.same s4) p2) (.cons ⟨p,rfl,SqT.of h4⟩ .nil)⟩
    rw[aR hd]
    exact cN p1 (.cons pe .nil)
   ·refine zb (fun r pr=>?_) H4 (s1.trans (s3.trans s4))
    obtain⟨e,_,pe⟩:=bR pr hd
    exact no e pe
 ·rintro us H3 p ⟨s3,ds,p1,p2⟩ hp
  rw[List.length_map,List.take_length] at p1
  refine⟨p,us,rfl,.inl ⟨SqL.of ag,fun r hr0=>?_⟩⟩
  have s4:=(ak hp (.lst us)).trans (ak hr0 (.tup us))
  exact zg ds p1 (.ref r) _ (s1.trans (s3.trans s4)) ⟨r,us,rfl,SqT.of ag,aJ (fun _ _ q=>q.same s4) p2⟩
end
end Ord
namespace L2
open PySem PySem.Spec PyProof.Rows
theorem nS:entryFor table "proto.unchain"=some Builtin.«proto.unchain»:=entryFor_of_tree (by kernel_rfl)
theorem rz {prog:Program}{w:World}{id:String}{args:Args}{b:Builtin}(hb:entryFor table id=some b):(model prog w).den (.builtin id args)=b args:=by
 show(match entryFor table id with|some b=>b args|none=>unsupported ((withoutEnding? id "#data").getD id))=_
 rw[hb]
section
variable {prog:Program}{w:World}{A:Around}{E:Value->Shared->Prop}{s:Shared}
theorem ua {e a:Addr}{Q:Value->Shared->Prop}(c:Cx0 a s.heap) (q:Q .none s):wpAny (model prog w) A (runValue (.builtin "proto.unchain" ⟨[.ref e,.ref a,.ref a,.bool false],[]⟩)) Q E s:=by
 obtain⟨o,vs,e1,e2,e3⟩:=c
 refine wpAny_runValue (codeAny_of_tree ?_)
 rw[rz nS]
 unfold Builtin.«proto.unchain»
 refine wpAny_bind (wpAny_field e1 e2 e3 ?_)
 rw[if_pos (by decide)]
 exact wpAny_pure q
theorem rA {α:Type}{e a:Addr}{oe:Obj}{vs:Array Value}{Q:α->Shared->Prop}(hh:A.handled=some (.ref a)) (ne:a≠e) (c:Cx0 a s.heap) (he:s.heap.get? e=some oe) (hd:oe.data=.fields vs) (hz:2<vs.size)
  (h:E (.ref e) { s with heap:=s.heap.update e (Obj.mapFields (·.setIfInBounds 2 (.ref a))) }):wpAny (model prog w) A (raiseNew (.ref e):Sem α) Q E s:=by
 unfold raiseNew
 refine wpAny_bind (wpAny_handled ?_)
 rw[hh]
 show wpAny _ _ (if (Value.ref a != Value.ref e)=true then _ else _) _ _ s
 rw[if_pos (by simpa using ne)]
 refine wpAny_bind (wpAny_holding (ua c ?_))
 refine wpAny_bind (wpAny_setField (x:=.ref a) he hd hz (wpAny_throw h))
theorem jg {h:Heap}{e:Addr}{o:Obj}{vs:Array Value}(he:h.get? e=some o) (hd:o.data=.fields vs) (i:Nat) (v:Value):(h.update e (Obj.mapFields (·.setIfInBounds i v))).get? e=some (o.mapFields (·.setIfInBounds i v)):=
 Heap.get?_update_self _ he (Obj.isFreed_of_fields (Obj.data_mapFields hd _))
variable {nm q:Str}{C N:Addr}{bs bm:List Value}{hdct:Bool}{sn:List Str}{sub:List Value}{ab:Bool}{col:Option Bool}{dd:Option Addr}{k0 k1 k2 k3 k5:Option Value}{newId:String}{env:Env}
theorem qv {a:Addr}{x c:Sem Value}{Q:Flow->Shared->Prop}(hbase:bm.contains (.type "BaseException")=true) (hh:A.handled=some (.ref a)) (hc:∀(s:Shared) (Q:Value->Shared->Prop),Q .none s->wpAny (model prog w) A c Q E s)
  (h:wpAny (model prog w) A x (fun v s₁=>∃e t,v=.ref e∧s₁.heap.get? C=some (excClassObj nm q C N bs bm hdct sn sub ab col dd k0 k1 k2 k3 k5 newId)∧s₁.heap.get? e=some { cls:=.ref C,data:=.fields #[.ref t,.none,.none,.none,.bool false,.none] }∧a≠e∧Cx0 a s₁.heap∧
   ∀h',(∀b,b≠e->h'.get? b=s₁.heap.get? b)->h'.get? e=some { cls:=.ref C,data:=.fields #[.ref t,.none,.ref a,.none,.bool true,.none] }->E (.ref e) { s₁ with heap:=h' }) E s):wpAny (model prog w) A (raiseStmt env (some x) (some c)) Q E s:=by
 have hcB:(Value.ref C::bm).contains (.type "BaseException")=true:=by rw[List.contains_cons,hbase,Bool.or_true]
 unfold raiseStmt
 refine wpAny_bind (wpAny_mono h (fun v s₁ h₁=>?_) fun _ _ x=>x)
 obtain⟨e,t,rfl,hC,he,ne,cx,hE⟩:=h₁
 obtain⟨hp,g,d,tk,os⟩:=s₁
 dsimp only at hC he cx hE ⊢
 refine wpAny_bind (wpAny_holding (hc _ _ (wpAny_bind (wpAny_pure ?_))))
 have hx:∀Q':Value->Shared->Prop,Q' (.ref e) ⟨hp,g,d,tk,os⟩->wpAny (model prog w) A (excFromValue (.ref e) "exceptions must derive from BaseException") Q' E ⟨hp,g,d,tk,os⟩:=fun Q' q'=>by
  unfold excFromValue
  repeat (first
   | with_reducible refine wpAny_loadPart_at he ?_
   | with_reducible refine wpAny_loadPart_at hC ?_
   | (with_reducible refine wpAny_isSubtype_exc hC ?_;rw[hcB])
   | wp_step)
  exact q'
 refine wpAny_bind (hx _ ?_)
 dsimp only
 rw[if_pos (by decide)]
 refine wpAny_bind (wpAny_pure (wpAny_bind (wpAny_setField he rfl (show 3<6 from by decide) ?_)))
 have he3:=jg he rfl 3 Value.none
 refine wpAny_bind (wpAny_setField he3 rfl (show 4<6 from by decide) ?_)
 have he4:=jg he3 rfl 4 (Value.bool true)
 have nC:C≠e:=fun z=>by
  rw[z] at hC
  rw[hC] at he
  cases he
 have hC4:((hp.update e (Obj.mapFields (·.setIfInBounds 3 Value.none))).update e (Obj.mapFields (·.setIfInBounds 4 (Value.bool true)))).get? C=some (excClassObj nm q C N bs bm hdct sn sub ab col dd k0 k1 k2 k3 k5 newId):=by
  rw[Heap.get?_update_other _ _ (Ne.symm nC),Heap.get?_update_other _ _ (Ne.symm nC)]
  exact hC
 have cx4:Cx0 a ((hp.update e (Obj.mapFields (·.setIfInBounds 3 Value.none))).update e (Obj.mapFields (·.setIfInBounds 4 (Value.bool true)))):=(cx.update (fI (by decide))).update (fI (by decide))
 have oth:∀b,b≠e->((hp.update e (Obj.mapFields (·.setIfInBounds 3 Value.none))).update e (Obj.mapFields (·.setIfInBounds 4 (Value.bool true)))).get? b=hp.get? b:=fun b hb=>by
  rw[Heap.get?_update_other _ _ (Ne.symm hb),Heap.get?_update_other _ _ (Ne.symm hb)]
 generalize ((hp.update e (Obj.mapFields (·.setIfInBounds 3 Value.none))).update e (Obj.mapFields (·.setIfInBounds 4 (Value.bool true))))=h4 at he4 hC4 cx4 oth ⊢
 have he4':h4.get? e=some { cls:=.ref C,data:=.fields #[.ref t,.none,.none,.none,.bool true,.none] }:=he4
 have fin:wpAny (model prog w) A (do setFlight (.ref e) none;raiseNew (.ref e):Sem Flow) Q E ⟨h4,g,d,tk,os⟩:=by
  unfold setFlight
  refine wpAny_bind (wpAny_bind (wpAny_field (x:=Value.none) he4' rfl rfl ?_))
  rw[if_neg (show ¬(Value.none != Value.none)=true from by decide)]
  refine wpAny_pure (rA hh ne cx4 he4' rfl (show 2<6 from by decide) ?_)
  exact hE _ (fun b hb=>(Heap.get?_update_other _ _ (Ne.symm hb)).trans (oth b hb)) (jg he4' rfl 2 (.ref a))
 have hi:wpAny (model prog w) A (isType (.ref e)) (fun r s'=>r=false∧s'=⟨h4,g,d,tk,os⟩) E ⟨h4,g,d,tk,os⟩:=by
  repeat (first
   | with_reducible refine wpAny_loadPart_at he4' ?_
   | wp_step)
  exact⟨rfl,rfl⟩
 have hr:wpAny (model prog w) A (raisedInstance (.ref e)) (fun r s'=>r=.ref e∧s'=⟨h4,g,d,tk,os⟩) E ⟨h4,g,d,tk,os⟩:=by
  unfold raisedInstance
  repeat (first
   | with_reducible refine wpAny_loadPart_at he4' ?_
   | with_reducible refine wpAny_loadPart_at hC4 ?_
   | wp_step)
  exact⟨rfl,rfl⟩
 refine wpAny_bind (wpAny_mono hi (fun r s' ⟨e1,e2⟩=>?_) fun _ _ x=>x)
 subst e1 e2
 rw[if_neg Bool.false_ne_true]
 refine wpAny_bind (wpAny_mono hr (fun r s' ⟨e1,e2⟩=>?_) fun _ _ x=>x)
 subst e1 e2
 exact fin
end
end L2
namespace L2
open PySem PySem.Spec PyProof.Rows
def iz (a:Addr):HO:=.ext fun h=>Cx0 a h
theorem zJ {P:Program}{w:World}{H:Hp}{h:Heap}{a:Addr}(c:Cx0 a h):aS P w H h a (iz a):=by
 obtain⟨oe,vs,e1,e2,e3⟩:=id c
 exact⟨c,⟨oe,e1⟩,fun h1 h2 ⟨o,ws,q1,q2,q3⟩ k=>⟨o,ws,k _ q1,q2,q3⟩⟩
section
variable {X:Cx}{a C:Addr}{E':XK}{y:Str}{e₀:Expr}{rest:List Expr}{t:TA}{np cpos pos p2:Pos}{j2:Nat}
theorem ub (hh:X.A.handled=some (.ref a)) (hg:Gl X y) (O:OwnX X.K X.mg y C)
  (hr:∀(aa:List (Addr×Obj)) (σ:St) (H:Hp) (s:Shared) (e t:Addr) (h':Heap),Inv X aa σ H s->s.heap.get? e=none->(∀b o,s.heap.get? b=some o->h'.get? b=some o)->h'.get? e=some { cls:=.ref C,data:=.fields #[.ref t,.none,.ref a,.none,.bool true,.none] }->E' (.ref C) none H->X.xe (.ref e) { s with heap:=h' })
  (ha:PA X (e₀::rest) t) (hd:(y==("__debug__":Str))=false:=by decide) (he:starEach (e₀::rest) X.env=(false,eval e₀ X.env)::starEach rest X.env:=by rfl) (hpl:(backTo cpos (starEach rest X.env)).any (·.1)=false:=by rfl) :
  PS X (.Raise (some (.Call (.Name y np) (e₀::rest) [] cpos)) (some (.Constant .none j2 p2)) pos) (fun _ σ H=>t σ H fun vs H1=>vs.length≤sizeLine∧H1 a=some (iz a)∧E' (.ref C) none H1):=by
 intro aa s σ H D I h
 obtain⟨bm,N,nm,qn,bs,hdct,sn,sub,ab,col,dd,k0,k1,k2,k3,k5,mN,hC,hN,hni,T⟩:=ye I.ok.mod.kin O.ok
 rw[arm_exec_Raise]
 refine wpAny_bind (wpAny_standAt ?_)
 refine qv (C:=C) (nm:=nm) (q:=qn) (N:=N) (bs:=bs) (bm:=bm) (hdct:=hdct) (sn:=sn) (sub:=sub) (ab:=ab) (col:=col) (dd:=dd) (k0:=k0) (k1:=k1) (k2:=k2) (k3:=k3) (k5:=k5) (newId:="ValueError.__new__") (T.hasType (by decide +kernel)) hh (fun s' Q' q'=>?_) ?_
 ·exact wpAny_bind (Constant_none (wpAny_bind (wpAny_standAt (wpAny_pure q'))))
 ·refine wpAny_bind (wpAny_Call_ofName (eU I hg O.bound ?_ hd))
  unfold callWith
  have h2:=ha cpos aa s σ H _ I h
  rw[he] at h2 ⊢
  refine wpAny_bind (wpAny_holding (Calls.evalArgs_plain (thn h2 fun us s2 hh9=>?_)))
  obtain⟨vs,H2,I2,r,q1,q2,q3⟩:=hh9
  have hz:us.length≤sizeLine:=by rw[←r.length];exact q1
  have hC2:=I2.bk _ _ hC
  have cx:Cx0 a s2.heap:=(I2.hok a _ q2).1
  have fin:∀(h':Heap) (e:Addr),Heap.MadeExcOf s2.heap h' e (.ref C) us->∃e' t,Value.ref e=.ref e'∧h'.get? C=some (excClassObj nm qn C N bs bm hdct sn sub ab col dd k0 k1 k2 k3 k5 "ValueError.__new__")∧h'.get? e'=some { cls:=.ref C,data:=.fields #[.ref t,.none,.none,.none,.bool false,.none] }∧a≠e'∧Cx0 a h'∧
    ∀h'',(∀b,b≠e'->h''.get? b=h'.get? b)->h''.get? e'=some { cls:=.ref C,data:=.fields #[.ref t,.none,.ref a,.none,.bool true,.none] }->X.xe (.ref e') { s2 with heap:=h'' }:=fun h' e hm=>by
   obtain⟨t',ht,_,_⟩:=hm.there
   obtain⟨oa,va,c1,c2,c3⟩:=cx
   have nw:∀b o,s2.heap.get? b=some o->b≠e:=fun b o q z=>by rw[z,hm.new] at q;cases q
   refine⟨e,t',rfl,hm.keeps _ _ hC2,ht,nw a _ c1,⟨oa,va,hm.keeps _ _ c1,c2,c3⟩,fun h'' k1 k2=>?_⟩
   exact hr aa σ H2 s2 e t' h'' I2 hm.new (fun b o q=>(k1 b (nw b o q)).trans (hm.keeps b o q)) k2 q3
  obtain⟨hp2,g2,d2,tk2,os2⟩:=s2
  refine wpAny_bind (wpAny_standAt ?_)
  have hst:(backTo cpos ((false,eval e₀ X.env)::starEach rest X.env)).any (fun x=>x.1)=false:=by
   show(false||(backTo cpos (starEach rest X.env)).any (fun x=>x.1))=false
   rw[hpl]
   rfl
  simp only[hst]
  refine wpAny_bind (wpAny_keeperOf_exc hC2 ?_)
  refine wpAny_bind (wpAny_call_exc_subT (hrest:=hz) PySem.F.excBase_ValueError (T.keeps I2.bk) hC2 (hN.keeps I2.bk) hni fun h' e hm=>?_)
  exact wpAny_bind (wpAny_holding (wpAny_point (wpAny_pure (wpAny_bind (wpAny_standAt (wpAny_pure (fin h' e hm)))))))
end
end L2
namespace L2
open PySem PySem.Spec PyProof.Rows
def DS (K:W.Frag) (CN C2:Addr) (E:XK) (tb:(St->XK)->TS) (t:TA):TS:=fun D σ H=>
 tb (fun σ' cls n H'=>n=none∧∃C,cls=.ref C∧W.mroIn K C (.ref CN)=some true∧∀e,H' e=none->t σ' (upd H' e (iz e)) fun vs H1=>vs.length≤sizeLine∧H1 e=some (iz e)∧E (.ref C2) (some 0) H1) D σ H
section
variable {P:Program}{w:World}{K:W.Frag}{mg:Str->Option Value}{base:Heap}{N:List Str}{qual:Str}{sc:Scope}{f:Addr}{cd:Value}{A:Around}{outer:List Env}{s₁:Shared}{H₁:Hp}{E:XK}
theorem zK {aa:List (Addr×Obj)}{σ:St}{H:Hp}{s:Shared}{e t a C:Addr}{h':Heap}{v:Value}(I:Inv (bw (CX1 P w) P w K mg base N qual sc f cd A outer s₁ H₁ E) aa σ H s) (hn:s.heap.get? e=none) (kp:∀b o,s.heap.get? b=some o->h'.get? b=some o)
  (he:h'.get? e=some { cls:=.ref C,data:=.fields #[.ref t,.none,.ref a,.none,.bool true,.none] }) (q:E (.ref C) (some 0) H) :
  notedBy (model P w) ((bw (CX1 P w) P w K mg base N qual sc f cd A outer s₁ H₁ E).A.mark (some v)) (envOfC qual sc s₁.heap.objs.size f cd) (cameBackBy (model P w) (bw (CX1 P w) P w K mg base N qual sc f cd A outer s₁ H₁ E).A (envOfC qual sc s₁.heap.objs.size f cd) (bw (CX1 P w) P w K mg base N qual sc f cd A outer s₁ H₁ E).xe) (.ref e) { s with heap:=h' }:=by
 generalize hX:bw (CX1 P w) P w K mg base N qual sc f cd A outer s₁ H₁ E=X at I ⊢
 have hex:X.ex=[]:=by rw[←hX];rfl
 have hso:X.stack=X.env::X.outer:=by rw[←hX];rfl
 have hout:X.outer=outer:=by rw[←hX];rfl
 have henv:X.env=envOfC qual sc s₁.heap.objs.size f cd:=by rw[←hX];rfl
 have hfr:X.env.frame=some X.env.locals:=by rw[←hX];rfl
 have hpr:X.prog=P:=by rw[←hX];rfl
 have hw:X.w=w:=by rw[←hX];rfl
 rw[←henv]
 have I':Inv X aa σ H { s with heap:=h' }:=I.kept (t':=s.toks) kp
 have noex:∀b,b∉X.ex:=fun b z=>by rw[hex] at z;exact absurd z (by simp)
 have apart:∀b,s.heap.get? b=none->X.s₀.heap.get? b=none∧b≠X.env.locals∧(∀y c,X.env.cells.lookup y=some c->c≠b)∧∀p∈X.pn++aa,p.1≠b:=fun b hb=>by
  refine⟨?_,?_,fun y c hy z=>?_,fun p hp z=>?_⟩
  ·cases e1:X.s₀.heap.get? b with
   | none=>rfl
   | some o=>
    obtain⟨o',e2⟩:=I.base.there b o e1 (noex b)
    rw[hb] at e2
    cases e2
  ·rintro rfl
   obtain⟨m,⟨o,_,_,e2,_⟩,_⟩:=I.loc
   rw[hb] at e2
   cases e2
  ·obtain⟨v,o,e2,_⟩:=I.cell y c hy
   rw[z,hb] at e2
   cases e2
  ·have e2:=(I.pin p hp).1
   rw[z,hb] at e2
   cases e2
 have frees:∀b,s.heap.get? b=none->H b=none:=fun b hb=>by
  cases e1:H b with
  | none=>rfl
  | some o=>
   obtain⟨u,e2⟩:=kI (I.hok b o e1)
   rw[hb] at e2
   cases e2
 have hB:(W.hideAll h' (frs X.stack++[e])).get? e=none:=W.hideAll_none _ (List.mem_append_right _ (List.mem_singleton.mpr rfl))
 have hst:(W.hideAll h' (frs X.stack++[e])).StaysIn h':=fun b o z=>W.of_hideAll _ z
 have hff:h'.FunFrames (W.hideAll h' (frs X.stack++[e])) X.stack:=W.funFrames_hide I'.stack fun env he a ha=>List.mem_append_left _ (List.mem_filterMap.mpr ⟨env,he,ha⟩)
 have frames:(X.A.mark (some v)).frames=some (X.env::X.outer):=hso▸I.ok.frames
 unfold notedBy noteFrame
 simp only[hfr]
 refine wpAny_bind (wpAny_field (x:=Value.none) he rfl rfl ?_)
 rw[if_neg (show ¬(Value.none != Value.none)=true from by decide)]
 refine wpAny_entryW (outer:=X.outer) (a0:=.ref t) (s:={ s with heap:=h' }) frames (hso▸hff) hfr he hst hB rfl (show 1<6 from by decide) rfl fun h4 hN=>?_
 obtain⟨n1,n2,n3,n4⟩:=hN
 obtain⟨oe,vs,T4,oT,ts,ge,gc,gd,g1,nT,Te,gT,gdT,g3⟩:=n3
 have sz3:3<ts.size:=(Array.getElem?_eq_some_iff.mp g3).1
 unfold cameBackBy
 refine wpAny_bind (wpAny_field ge gd g1 ?_)
 rw[if_neg (by simp)]
 unfold setFlight
 refine wpAny_bind (wpAny_field ge gd g1 ?_)
 rw[if_pos (by simp)]
 refine wpAny_setField gT gdT sz3 ?_
 generalize hv:(X.env.frame.elim Value.none fun f=>rawInt f)=u
 generalize hh6:h4.update T4 (Obj.mapFields (·.setIfInBounds 3 u))=h6
 have oth:∀b,b≠T4->h6.get? b=h4.get? b:=fun b z=>by rw[←hh6];exact Heap.get?_update_other _ _ (Ne.symm z)
 have frT4:∀b∈frs X.stack,b≠T4:=fun b hb z=>by
  obtain⟨o,e1,nd⟩:=fq I' hb
  obtain⟨sl,e2⟩:=n4 b o e1 nd
  rw[z,gT] at e2
  cases e2
  exact nd ts gdT
 have keep6:∀b o,b∉frs X.stack->b∉[e]->h'.get? b=some o->h6.get? b=some o:=fun b o z1 z2 e1=>by
  have hb:=W.hideAll_get _ e1 fun m=>(List.mem_append.mp m).elim z1 z2
  have nb:b≠T4:=fun z=>by rw[z,nT] at hb;cases hb
  exact(oth b nb).trans (n1 b o hb)
 have slot6:∀b o,b∈frs X.stack->h'.get? b=some o->∃sl,h6.get? b=some { o with slots:=sl }:=fun b o hb e1=>by
  obtain⟨o',e2,nd⟩:=fq I' hb
  have e2':h'.get? b=some o':=e2
  rw[e1] at e2'
  cases e2'
  obtain⟨sl,e3⟩:=n4 b o e1 nd
  exact⟨sl,(oth b (frT4 b hb)).trans e3⟩
 have hch:∀b∈[e],X.s₀.heap.get? b=none∧b≠X.env.locals∧(∀y c,X.env.cells.lookup y=some c->c≠b)∧∀p∈X.pn++aa,p.1≠b:=fun b hb=>by rw[List.mem_singleton.mp hb];exact apart e hn
 have hchH:∀b∈[e],H b=none:=fun b hb=>by rw[List.mem_singleton.mp hb];exact frees e hn
 have I6:Inv X aa σ H { s with heap:=h6 }:=I'.stepN (g':=s.gens) (d':=s.drawn) (t':=s.toks) hch keep6 slot6 hex hso hchH I'.bare
 have nT4:H T4=none∧X.s₀.heap.get? T4=none:=by
  have z:T4∉frs X.stack++[e]:=fun z=>(List.mem_append.mp z).elim (fun z=>frT4 T4 z rfl) fun z=>Te (List.mem_singleton.mp z)
  have e1:h'.get? T4=none:=by
   cases e1:h'.get? T4 with
   | none=>rfl
   | some o=>rw[W.hideAll_get _ e1 z] at nT;cases nT
  have e2:s.heap.get? T4=none:=by
   cases e2:s.heap.get? T4 with
   | none=>rfl
   | some o=>rw[kp _ _ e2] at e1;cases e1
  exact⟨frees T4 e2,(apart T4 e2).1⟩
 have hB6:∀b∈[e,T4],(W.hideAll h6 (frs X.stack++[e,T4])).get? b=none:=fun b hb=>W.hideAll_none _ (List.mem_append_right _ hb)
 have tr6:h6.TracedAtW (W.hideAll h6 (frs X.stack++[e,T4])) e (.ref C) (.ref t) u:=by
  have up:h6.get? T4=some (oT.mapFields (·.setIfInBounds 3 u)):=by
   rw[←hh6]
   exact Heap.get?_update_self _ gT (Obj.isFreed_of_fields (Obj.data_mapFields gdT _))
  exact⟨oe,vs,T4,_,_,(oth e (Ne.symm Te)).trans ge,gc,gd,g1,hB6 T4 (by simp),Te,up,Obj.data_mapFields gdT _,by simp[sz3]⟩
 subst hX
 refine nj (outer:=outer) (L:=s₁.heap.objs.size) I6.ok.frames (W.funFrames_hide I6.stack fun env he a ha=>List.mem_append_left _ (List.mem_filterMap.mpr ⟨env,he,ha⟩)) rfl tr6 (fun b o z=>W.of_hideAll _ z) (hB6 e (by simp)) fun h7 hL=>?_
 obtain⟨k1,k2,k3,k4⟩:=hL
 exact jp (s:={ s with heap:=h6 }) (l:=[e,T4]) (n:=some 0) I6 rfl rfl
  (fun b hb=>by
   rcases List.mem_cons.mp hb with z|z
   ·rw[z];exact⟨frees e hn,(apart e hn).1⟩
   ·rw[List.mem_singleton.mp z];exact nT4)
  (frees e hn) (apart e hn).1 (fun b o z1 z2 e1=>k1 b o (W.hideAll_get _ e1 fun m=>(List.mem_append.mp m).elim z1 z2)) k4 k3 (fun z=>by cases z) q
variable {X:Cx}{body:List Stmt}{x y:Str}{CN C2:Addr}{np yp cpos p2 rpos hpos pos:Pos}{j2:Nat}{tb:(St->XK)->TS}{e₀:Expr}{rest:List Expr}{t:TA}
theorem zL (hX:X=bw (CX1 P w) P w K mg base N qual sc f cd A outer s₁ H₁ E) (hc:X.calm=true) (hg:Gl X x) (hm:X.mg x=some (.ref CN))
  (hnt:W.instIn X.K (.ref CN) (.type "tuple")=some false) (hxc:W.mroIn X.K CN (.type "BaseException")=some true) (hcl:W.isClsIn X.K CN=true)
  (hgy:Gl X y) (O:OwnX X.K X.mg y C2)
  (hb:∀(pn':List (Addr×Obj)) (xe':Value->Shared->Prop) (E:St->XK),bI (CX1 X.prog X.w) (X.inn X.A X.calm pn' xe') E->PSs (X.inn X.A X.calm pn' xe') body (tb E))
  (ha:∀(A':Around) (pn':List (Addr×Obj)) (xe':Value->Shared->Prop),PA (X.inn A' false pn' xe') (e₀::rest) t) (hd:(x==("__debug__":Str))=false:=by decide) (hdy:(y==("__debug__":Str))=false:=by decide)
  (he:starEach (e₀::rest) X.env=(false,eval e₀ X.env)::starEach rest X.env:=by rfl) (hpl:(backTo cpos (starEach rest X.env)).any (·.1)=false:=by rfl) :
  PS X (.Try body [.ExceptHandler (some (.Name x np)) none [.Raise (some (.Call (.Name y yp) (e₀::rest) [] cpos)) (some (.Constant .none j2 p2)) rpos] hpos] [] [] pos) (DS X.K CN C2 E tb t):=by
 have hex:X.ex=[]:=by rw[hX];rfl
 have hso:X.stack=X.env::X.outer:=by rw[hX];rfl
 have hfr:X.env.frame=some X.env.locals:=by rw[hX];rfl
 intro aa s σ H D I h
 refine wpAny_Try_except ?_
 have pass:bI (CX1 X.prog X.w) (X.inn X.A X.calm (X.pn++aa) (fun e s₁=>wpAny (model X.prog X.w) X.A (noteFrame e X.env) (fun _ s₂=>wpAny (model X.prog X.w) X.A (setFlight e none) (fun _ s₃=>
   wpAny (model X.prog X.w) X.A (handleBy e X.env [.ExceptHandler (some (.Name x np)) none [.Raise (some (.Call (.Name y yp) (e₀::rest) [] cpos)) (some (.Constant .none j2 p2)) rpos] hpos]) (SP X aa D) X.xe s₃) X.xe s₂) X.xe s₁))
   (fun σ' cls n H'=>n=none∧∃C,cls=.ref C∧W.mroIn X.K C (.ref CN)=some true∧∀e,H' e=none->t σ' (upd H' e (iz e)) fun vs H1=>vs.length≤sizeLine∧H1 e=some (iz e)∧E (.ref C2) (some 0) H1):=by
  intro pins' σ' H' s' e s'' I' hx
  obtain⟨ea,cls,n,H'',rfl,ho,hgn,un,hok,fl,hcx,hn,C,rfl,hmro,q⟩:=hx
  have c0:=hcx hn
  have Ic:=I'.call' (ch:=[]) ho un hok hgn (fun b z=>absurd z (by simp))
  have I1:Inv X aa σ' H'' s'':=Ic.out (aa:=aa) I.ok.frames I.ok.hd fun p hp=>List.mem_append_left _ hp
  obtain⟨T,trc,hT0,hTH⟩:=fl.tr
  have old:∀b,s'.heap.get? b=none->X.s₀.heap.get? b=none:=fun b hb'=>by
   cases e1:X.s₀.heap.get? b with
   | none=>rfl
   | some o=>
    obtain⟨o',e2⟩:=I'.base.there b o e1 (by intro z;rw[show(X.inn X.A X.calm (X.pn++aa) _).ex=X.ex from rfl,hex] at z;exact absurd z (by simp))
    rw[hb'] at e2
    cases e2
  have apart:∀b,s'.heap.get? b=none->X.s₀.heap.get? b=none∧b≠X.env.locals∧(∀y c,X.env.cells.lookup y=some c->c≠b)∧∀p∈X.pn++aa,p.1≠b:=fun b hb'=>by
   refine⟨old b hb',?_,fun y c hy z=>?_,fun p hp z=>?_⟩
   ·rintro rfl
    obtain⟨m,⟨o,_,_,e2,_⟩,_⟩:=I'.loc
    have e3:s'.heap.get? X.env.locals=some o:=e2
    rw[hb'] at e3
    cases e3
   ·obtain⟨v,o,e2,_⟩:=I'.cell y c hy
    rw[z,hb'] at e2
    cases e2
   ·have e2:=(I'.pin p (List.mem_append_left _ hp)).1
    rw[z,hb'] at e2
    cases e2
  have hch:∀b∈[ea,T],X.s₀.heap.get? b=none∧b≠X.env.locals∧(∀y c,X.env.cells.lookup y=some c->c≠b)∧∀p∈X.pn++aa,p.1≠b:=fun b hb'=>by
   rcases List.mem_cons.mp hb' with z|z
   ·rw[z];exact apart ea fl.new
   ·rw[List.mem_singleton.mp z];exact apart T hT0
  have hchH:∀b∈[ea,T],H'' b=none:=fun b hb'=>by
   rcases List.mem_cons.mp hb' with z|z
   ·rw[z];exact fl.free
   ·rw[List.mem_singleton.mp z];exact hTH
  have hB:∀b∈[ea,T],(W.hideAll s''.heap (frs X.stack++[ea,T])).get? b=none:=fun b hb'=>W.hideAll_none _ (List.mem_append_right _ hb')
  have hst:(W.hideAll s''.heap (frs X.stack++[ea,T])).StaysIn s''.heap:=fun b o z=>W.of_hideAll _ z
  have hff:s''.heap.FunFrames (W.hideAll s''.heap (frs X.stack++[ea,T])) X.stack:=W.funFrames_hide I1.stack fun env he a ha=>List.mem_append_left _ (List.mem_filterMap.mpr ⟨env,he,ha⟩)
  obtain⟨a0,tw⟩:=trc.traced (hB T (by simp))
  show wpAny (model X.prog X.w) X.A (noteFrame (.ref ea) X.env) _ X.xe s''
  refine wpAny_mono (jo (e:=ea) (E:=fun _ _=>False) (Q:=fun _ s2=>∃h4,s2={ s'' with heap:=h4 }∧Heap.NotedW (W.hideAll s''.heap (frs X.stack++[ea,T])) (X.env::X.outer) ea (.ref C) a0 (rawInt X.env.locals) s''.heap h4) (fR _ _)
   (wpAny_noteFrame_onW (outer:=X.outer) (L:=X.env.locals) (hso▸I.ok.frames) (hso▸hff) hfr tw hst (hB ea (by simp)) fun h4 hN4=>⟨h4,rfl,hN4⟩) c0) (fun _ s2 z=>?_) (fun _ _ z=>z.1.elim)
  obtain⟨⟨h4,rfl,hN4⟩,c4⟩:=z
  obtain⟨n1,n2,n3,n4⟩:=hN4
  refine wpAny_mono (jo (e:=ea) (E:=fun _ _=>False) (Q:=fun _ s2=>∃h5,s2={ s'' with heap:=h5 }∧(W.hideAll s''.heap (frs X.stack++[ea,T])).StaysIn h5∧h5.FunFrames (W.hideAll s''.heap (frs X.stack++[ea,T])) (X.env::X.outer)∧h5.TracedW (W.hideAll s''.heap (frs X.stack++[ea,T])) ea (.ref C) a0∧∀b o,h4.get? b=some o->(∀vs,o.data≠.fields vs)->h5.get? b=some o) (fQ _ _)
   (wpAny_setFlight_noneW n1 n2 n3 fun h5 m1 m2 m3 m4=>⟨h5,rfl,m1,m2,m3,m4⟩) c4) (fun _ s2 z=>?_) (fun _ _ z=>z.1.elim)
  obtain⟨⟨h5,rfl,m1,m2,m3,m4⟩,cz5⟩:=z
  have kp5:∀b o,b∉frs X.stack->b∉[ea,T]->s''.heap.get? b=some o->h5.get? b=some o:=fun b o z1 z2 e1=>m1 b o (W.hideAll_get _ e1 fun m=>(List.mem_append.mp m).elim z1 z2)
  have sl5:∀b o,b∈frs X.stack->s''.heap.get? b=some o->∃sl,h5.get? b=some { o with slots:=sl }:=fun b o hb' e1=>by
   obtain⟨o',e2,nd⟩:=fq I1 hb'
   rw[e1] at e2
   cases e2
   obtain⟨sl,e3⟩:=n4 b o e1 nd
   exact⟨sl,m4 b _ e3 nd⟩
  have I5:Inv X aa σ' H'' { s'' with heap:=h5 }:=I1.stepN (g':=s''.gens) (d':=s''.drawn) (t':=s''.toks) hch kp5 sl5 hex hso hchH I1.bare
  have hfm:(X.A.mark (some (.ref ea))).frames=X.A.frames:=rfl
  refine wpAny_handleBy_cons (codeAny_handlers_test ?_) (by intro q;cases q)
  have J5:Inv (X.inn (X.A.mark (some (.ref ea))) false (X.pn++aa) (notedBy (model X.prog X.w) (X.A.mark (some (.ref ea))) X.env (cameBackBy (model X.prog X.w) X.A X.env X.xe))) [] σ' H'' { s'' with heap:=h5 }:=
   I5.inn hfm (fun z=>by cases z) fun p hp=>by simpa using hp
  refine eU J5 hg hm ?_ hd
  obtain⟨T5,trc5,hT5⟩:=kJ m3
  obtain⟨_,oe,_,_,_,e5,c5,_⟩:=id trc5
  refine kK I5.kIn e5 c5.1 hnt hxc hcl hmro ?_
  refine codeAny_handlers_suite ?_
  refine wpAny_mono (jo (e:=ea) (E:=fun _ _=>False) (Q:=fun _ s2=>∃h6,s2={ s'' with heap:=h6 }∧(W.hideAll s''.heap (frs X.stack++[ea,T])).StaysIn h6∧h6.FunFrames (W.hideAll s''.heap (frs X.stack++[ea,T])) (X.env::X.outer)∧h6.TracedW (W.hideAll s''.heap (frs X.stack++[ea,T])) ea (.ref C) a0∧∀b o,h5.get? b=some o->(∀vs,o.data≠.fields vs)->h6.get? b=some o) (fQ _ _)
   (wpAny_setFlight_noneW m1 m2 m3 fun h6 p1 p2 p3 p4=>⟨h6,rfl,p1,p2,p3,p4⟩) cz5) (fun _ s2 z=>?_) (fun _ _ z=>z.1.elim)
  obtain⟨⟨h6,rfl,p1,p2,p3,p4⟩,c6⟩:=z
  have kp6:∀b o,b∉frs X.stack->b∉[ea,T]->s''.heap.get? b=some o->h6.get? b=some o:=fun b o z1 z2 e1=>p1 b o (W.hideAll_get _ e1 fun m=>(List.mem_append.mp m).elim z1 z2)
  have sl6:∀b o,b∈frs X.stack->s''.heap.get? b=some o->∃sl,h6.get? b=some { o with slots:=sl }:=fun b o hb' e1=>by
   obtain⟨o',e2,nd⟩:=fq I1 hb'
   rw[e1] at e2
   cases e2
   obtain⟨sl,e3⟩:=sl5 b o hb' e1
   exact⟨sl,p4 b _ e3 nd⟩
  have I6:Inv X aa σ' H'' { s'' with heap:=h6 }:=I1.stepN (g':=s''.gens) (d':=s''.drawn) (t':=s''.toks) hch kp6 sl6 hex hso hchH I1.bare
  have I7:Inv X aa σ' (upd H'' ea (iz ea)) { s'' with heap:=h6 }:=
   I6.track fl.free (hch ea (by simp)).1 (hch ea (by simp)).2.1 (hch ea (by simp)).2.2.1 (hch ea (by simp)).2.2.2 (zJ c6)
  have J7:Inv (X.inn (X.A.mark (some (.ref ea))) false (X.pn++aa) (notedBy (model X.prog X.w) (X.A.mark (some (.ref ea))) X.env (cameBackBy (model X.prog X.w) X.A X.env X.xe))) [] σ' (upd H'' ea (iz ea)) { s'' with heap:=h6 }:=
   I7.inn hfm (fun z=>by cases z) fun p hp=>by simpa using hp
  refine wpAny_mono (ai (ub (X:=X.inn (X.A.mark (some (.ref ea))) false (X.pn++aa) (notedBy (model X.prog X.w) (X.A.mark (some (.ref ea))) X.env (cameBackBy (model X.prog X.w) X.A X.env X.xe))) (a:=ea) (E':=fun c _ H=>E c (some 0) H) rfl hgy O (fun pins9 σ9 H9 s9 e9 t9 h9 I9 n9 k9 o9 q9=>?_) (ha _ _ _) hdy he hpl) [] _ σ' (upd H'' ea (iz ea)) { nx:=fun _ _=>False,rt:=fun _ _=>False } J7 (q ea fl.free)) (fun f s10 q10=>?_) (fun _ _ x=>x)
  ·have I9':Inv X aa σ9 H9 s9:=I9.out (aa:=aa) I.ok.frames I.ok.hd fun p hp=>by simpa using List.mem_append_left _ hp
   subst hX
   exact zK I9' n9 k9 o9 q9
  ·cases f with
   | next=>obtain⟨_,_,_,z⟩:=q10;exact z.elim
   | ret u=>obtain⟨_,_,_,_,_,z⟩:=q10;exact z.elim
   | brk=>obtain⟨_,_,_,z⟩:=q10;exact z.elim
   | cont=>obtain⟨_,_,_,z⟩:=q10;exact z.elim
 have Ib:Inv (X.inn X.A X.calm (X.pn++aa) (fun e s₁=>wpAny (model X.prog X.w) X.A (noteFrame e X.env) (fun _ s₂=>wpAny (model X.prog X.w) X.A (setFlight e none) (fun _ s₃=>
   wpAny (model X.prog X.w) X.A (handleBy e X.env [.ExceptHandler (some (.Name x np)) none [.Raise (some (.Call (.Name y yp) (e₀::rest) [] cpos)) (some (.Constant .none j2 p2)) rpos] hpos]) (SP X aa D) X.xe s₃) X.xe s₂) X.xe s₁)) [] σ H s:=I.inn rfl I.ok.hd fun p hp=>by simpa using hp
 refine thn (hb _ _ _ pass [] s σ H D Ib h) fun f s1 q1=>?_
 have bk:∀{σ1:St}{H1:Hp},Inv (X.inn X.A X.calm (X.pn++aa) (fun e s₁=>wpAny (model X.prog X.w) X.A (noteFrame e X.env) (fun _ s₂=>wpAny (model X.prog X.w) X.A (setFlight e none) (fun _ s₃=>
   wpAny (model X.prog X.w) X.A (handleBy e X.env [.ExceptHandler (some (.Name x np)) none [.Raise (some (.Call (.Name y yp) (e₀::rest) [] cpos)) (some (.Constant .none j2 p2)) rpos] hpos]) (SP X aa D) X.xe s₃) X.xe s₂) X.xe s₁)) [] σ1 H1 s1->Inv X aa σ1 H1 s1:=fun {σ1 H1} J=>J.out (aa:=aa) I.ok.frames I.ok.hd fun p hp=>by simpa using hp
 cases f with
 | next=>obtain⟨σ1,H1,J1,d1⟩:=q1;exact wpAny_execs_nil ⟨σ1,H1,bk J1,d1⟩
 | ret u=>obtain⟨v,σ1,H1,J1,r1,d1⟩:=q1;exact⟨v,σ1,H1,bk J1,r1,d1⟩
 | brk=>obtain⟨σ1,H1,J1,d1⟩:=q1;exact⟨σ1,H1,bk J1,d1⟩
 | cont=>obtain⟨σ1,H1,J1,d1⟩:=q1;exact⟨σ1,H1,bk J1,d1⟩
end
end L2
namespace Ord
open PySem L2 Mx
abbrev oo:Stmt:=top 38
theorem nA (xs:List V) (k:Nat):cH xs (some (k:Int)) none=xs.drop k:=by
 unfold cH
 rw[HT.rJ,HT.jY]
 by_cases h:k≤xs.length
 ·rw[Nat.min_eq_left h,List.take_of_length_le (by rw[List.length_drop];lia)]
 ·rw[Nat.min_eq_right (by lia),List.drop_of_length_le (Nat.le_refl _),List.drop_of_length_le (by lia)]
  simp
theorem qw {c:Nat}{z:Str}{d d':Int×Int}(h:cY c z d) (h':cY c z d'):d=d':=by
 obtain⟨a,b,e1,_,_,e2⟩:=h
 obtain⟨a',b',e1',_,_,e2'⟩:=h'
 rw[e1] at e1'
 cases e1'
 exact e2.trans e2'.symm
theorem qx {z:Str}{r r':Bk.Room}(h:fK z r) (h':fK z r'):r=r':=pfn (F:=cY 58) (fun _ _ _ q q'=>qw q q') h h'
def dX (z:Str) (m:Int) (rs:List Bk.Room) (f:Int):Prop:=∃h rows,Txt.split z (sg 10)=h::rows∧cY 32 h (m,f)∧Paired fK rows rs
structure TrB (K:W.Frag) (mg:Str->Option Value) (CB:Addr):Prop where
 kn:mg "BadBook"=some (.ref CB)
 nt:W.instIn K (.ref CB) (.type "tuple")=some false
 xc:W.mroIn K CB (.type "BaseException")=some true
 cl:W.isClsIn K CB=true
 own:W.mroIn K CB (.ref CB)=some true
section
variable {P:Program}{w:World}{K:W.Frag}{mg:Str->Option Value}{base:Heap}{CO CT CB:Addr}
abbrev NRd:List Str:=["text","rows","ends","book"]
def lv (K:W.Frag) (CT:Addr):Sp:=fun vs H Q E=>∃z:Str,vs=[.str z]∧z.length≤100000∧(Txt.split z (sg 10)).length≤70∧
 (∀m rs f,dX z m rs f->BOk m rs f->∀(x:V) (H':Hp),ar H H'->BookA K H' x m rs f->Q x H')∧((∀m rs f,dX z m rs f->¬BOk m rs f)->∀n H',ar H H'->E (.ref CT) n H')
theorem jh:FnScope NRd ["text"] (am oo):={}
theorem zM {f:Addr}{fd:FuncData}(F:Fun K "read" "read" oo f fd) (TT:TxT K mg CO CT) (TB:TrB K mg CB) (WN:Df P w K mg base (CX1 P w) 2 "numbers_in" ["text","sign"] (j7 K CT)) (WR:Df P w K mg base (CX1 P w) 3 "read_room" ["row"] (qt K CT)) (WB:Df P w K mg base (CX1 P w) 11 "look_book" ["book"] (jG K CB)):FnOk P w K mg base (CX1 P w) 12 f fd ["text"] (lv K CT):=by
 have T:=TT.t
 refine F.okX jh (fun vs H Q E h=>?_) (fun X cdv A outer s H vs Q E hX hp hra hr h=>?_)
 ·obtain⟨z,rfl,_⟩:=h
  rfl
 obtain⟨z,rfl,hz,h70,zg,zb⟩:=h
 subst hX
 refine⟨_,af (ay (i:=1) jh.nd rfl (lc rfl) (bP PySem.F.plainAttrs_str PySem.F.slot_str_split PySem.F.type_str_split dw (pv 0) (ac aE ae)))
  (af (ay (i:=2) jh.nd rfl (lc rfl) (aF WN (hr.mono (by decide)) rfl hp (ac (bT (show IxR _ (dJ K) from bA) (pv 1) ao (fun _ _=>rfl)) (ac aE ae))))
  (af (ay (i:=3) jh.nd rfl (lc rfl) (eK (ac (pxT K (pv 2) ao) (ac
    (qm rfl rfl (show CScope (am oo) NRd _ _ from by constructor <;> decide +kernel) (cg (cG jn (pv 1) (cT ao) cS)) (fun _ _ _ _ _ _=>cw)
     (fun cl C s₂ H₂ fp aa pc=>aF WR (hr.mono (by decide)) rfl pc (ac (pv 0) ae)) jh.nd)
    (ac (pxT K (pv 2) ao) ae)))))
  (af (zL rfl rfl rfl TB.kn TB.nt TB.xc TB.cl rfl TT.bt (fun pn' xe' E' hp'=>ai (bq (aF WB hr rfl hp' (ac (pv 3) ae)))) (fun A' pn' xe'=>ac aE ae))
  (ai (aL (pv 3)))))),?_⟩
 have hz':z.length+2≤sizeLine:=by rw[sizeLine_eq];lia
 refine⟨_,rfl,rfl,z,sg 10,rfl,by rw[←fE],rfl,hz',fun l hl=>?_⟩
 have s1:=ak hl (.lst ((Txt.split z (sg 10)).map V.str))
 have h1:(upd H l (.lst ((Txt.split z (sg 10)).map V.str))) l=some (.lst ((Txt.split z (sg 10)).map V.str)):=ag
 generalize (upd H l (.lst ((Txt.split z (sg 10)).map V.str)))=H1 at s1 h1 ⊢
 obtain⟨hd,rows,er⟩:∃hd rows,Txt.split z (sg 10)=hd::rows:=by
  have:=PyProof.Rows.split_pos z (sg 10)
  cases h:Txt.split z (sg 10) with
  | nil=>rw[h] at this;exact absurd this (by decide)
  | cons a b=>exact⟨a,b,rfl⟩
 have short:∀a∈hd::rows,a.length≤100000:=fun a ha=>Nat.le_trans (PyProof.Rows.part_short (x:=z) (y:=sg 10) (by rw[er];exact ha)) hz
 rw[er] at h1
 rw[er,List.length_cons] at h70
 refine⟨_,rfl,l,_,0,.str hd,rfl,rfl,SqL.of h1,eQ,hd,32,by rw[←dF],short hd (List.mem_cons_self ..),fun d pd p H2 s2 h2=>?_,fun no H2 s2=>?_⟩
 case refine_2=>
  refine zb (fun m rs f' ⟨h',rows',e',pt,_⟩=>?_) none H2 (s1.trans s2)
  rw[er] at e'
  cases e'
  exact absurd pt (no (m,f'))
 obtain⟨m,f'⟩:=d
 have same_pair:∀m2 f2,cY 32 hd (m2,f2)->m2=m∧f2=f':=fun m2 f2 q=>by
  obtain⟨a,b,e1,_,_,e2⟩:=pd
  obtain⟨a',b',e1',_,_,e2'⟩:=q
  rw[e1] at e1'
  cases e1'
  cases e2
  cases e2'
  exact⟨rfl,rfl⟩
 refine⟨_,rfl,p,_,0,_,rfl,rfl,SqT.of h2,eQ,_,rfl,1,rfl,l,_,rfl,SqL.of (s2 _ _ h1),fun l2 hl2=>?_⟩
 rw[show cH ((hd::rows).map V.str) (some 1) none=rows.map V.str from by rw[show(1:Int)=((1:Nat):Int) from rfl,nA];rfl]
 have s3:=ak hl2 (.lst (rows.map V.str))
 have h3:(upd H2 l2 (.lst (rows.map V.str))) l2=some (.lst (rows.map V.str)):=ag
 generalize (upd H2 l2 (.lst (rows.map V.str)))=H3 at s3 h3 ⊢
 refine⟨l2,rfl,⟨_,SqL.of h3⟩,eW (K:=K) (a:=l2) (xs:=rows.map V.str) (fun j us H4=>ar H3 H4∧∃rs,Paired fK (rows.take j) rs∧Paired (bg K H4) us rs) ⟨ar.refl _,[],.nil,.nil⟩ ?_ (by rw[List.length_map,sizeLine_eq];lia) ?_ ?_⟩
 ·rintro j us H4 _ ⟨s4,rs,p1,p2⟩
  have l1:=p1.length
  have l2':=p2.length
  rw[List.length_take] at l1
  exact⟨SqL.of (s4 _ _ h3),by lia⟩
 ·rintro j x us H4 hx ⟨s4,rs,p1,p2⟩
  rw[List.getElem?_map] at hx
  cases hd':rows[j]? with
  | none=>rw[hd'] at hx;cases hx
  | some d=>
   rw[hd'] at hx
   cases hx
   refine goT (aG ⟨_,rfl,d,rfl,short d (List.mem_cons_of_mem _ (List.mem_of_getElem? hd')),fun r pr x H5 s5 ra=>?_,fun no H5 s5=>?_⟩)
   ·refine⟨s4.trans s5,rs++[r],?_,cN (aJ (fun _ _ q=>q.same s5) p2) (.cons ra .nil)⟩
    rw[aR hd']
    exact cN p1 (.cons pr .nil)
   ·refine zb (fun m2 rs2 f2 ⟨h',rows',e',_,pr⟩=>?_) none H5 (s1.trans (s2.trans (s3.trans (s4.trans s5))))
    rw[er] at e'
    cases e'
    obtain⟨r,_,q⟩:=bR pr hd'
    exact absurd q (no r)
 ·rintro us H4 lr ⟨s4,rs,p1,p2⟩ hlr
  rw[List.length_map,List.take_length] at p1
  have rl:=p1.length
  have s5:=ak hlr (.lst us)
  have h5:(upd H4 lr (.lst us)) lr=some (.lst us):=ag
  have p5:Paired (bg K (upd H4 lr (.lst us))) us rs:=aJ (fun _ _ q=>q.same s5) p2
  generalize (upd H4 lr (.lst us))=H5 at s5 h5 p5 ⊢
  have s25:=s3.trans (s4.trans s5)
  refine⟨_,rfl,p,_,1,_,rfl,rfl,SqT.of (s25 _ _ h2),br (j:=1) rfl,by show 3≤sizeLine;decide,fun b hb=>?_⟩
  have s6:=ak hb (.tup [.int m,.ref lr,.int f'])
  have ba:BookA K (upd H5 b (.tup [.int m,.ref lr,.int f'])) (.ref b) m rs f':=⟨b,lr,us,rfl,SqT.of ag,SqL.of (s6 _ _ h5),aJ (fun _ _ q=>q.same s6) p5⟩
  generalize (upd H5 b (.tup [.int m,.ref lr,.int f']))=H6 at s6 ba ⊢
  have s16:=s1.trans (s2.trans (s25.trans s6))
  have bt:dX z m rs f':=⟨hd,rows,er,pd,p1⟩
  refine⟨_,rfl,_,m,rs,f',rfl,ba,by lia,fun bok H7 s7=>?_,fun nb H7 s7=>?_⟩
  ·exact⟨_,rfl,zg m rs f' bt bok (.ref b) H7 (s16.trans s7) (ba.same s7)⟩
  ·refine⟨rfl,CB,rfl,TB.own,fun e he=>⟨by show 1≤sizeLine;decide,ag,zb (fun m2 rs2 f2 ⟨h',rows',e',pt,pr⟩=>?_) (some 0) _ (s16.trans (s7.trans (ak he _)))⟩⟩
   rw[er] at e'
   cases e'
   obtain⟨rfl,rfl⟩:=same_pair m2 f2 pt
   rw[pfn (F:=fK) (fun _ _ _ q q'=>qx q q') pr p1]
   exact nb
end
end Ord
set_option maxHeartbeats 600000
namespace L2
open PySem PySem.Spec PyProof.Rows
theorem nB {K:W.Frag}{a:Addr}{xs:List V}{g:TG}{tt:TT}{te:TE}{σ:St}{H:Hp}{Q:VK}(Pv:Nat->List V->Hp->Prop) (h0:Pv 0 [] H) (hl:∀i ys H,i≤xs.length->Pv i ys H->SqT K H a xs∧ys.length≤i) (hz:xs.length≤sizeLine)
  (hs:∀i x ys H u v,xs[i]?=some x->Pv i ys H->g x (u::v::σ) H fun τ' H4=>∃a b,τ'=some a::some b::σ∧tt τ' H4 fun ok H5=>if ok=true then te τ' H5 fun y H6=>Pv (i+1) (ys++[y]) H6 else Pv (i+1) ys H5)
  (hd:∀ys H p,Pv xs.length ys H->H p=none->Q (.ref p) (upd H p (.lst ys))):yn (Itt K a) σ g tt te Q H:=by
 refine⟨fun i m ys H=>m=xs.length-i∧i≤xs.length∧Pv i ys H,⟨xs.length,by simp,Nat.zero_le _,h0⟩,?_⟩
 rintro i m ys H2 ⟨rfl,hi,p⟩
 obtain⟨q,hn⟩:=hl i ys H2 hi p
 by_cases hlt:i<xs.length
 ·refine .inr ⟨⟨xs,xs[i],q,by simp[hlt]⟩,by lia,Pv (i+1),fun zs H' p'=>⟨xs.length-(i+1),by lia,rfl,hlt,p'⟩,fun x H3 u v y=>?_⟩
  obtain⟨e,y⟩:=y
  subst e
  exact hs i x ys _ u v (y xs q) p
 ·have e:i=xs.length:=by lia
  subst e
  exact .inl ⟨⟨xs,q,Nat.le_refl _⟩,by lia,fun b hb=>hd ys H2 b p hb⟩
end L2
namespace Ord
open PySem L2 Mx
abbrev qy:Stmt:=top 37
abbrev lx:Stmt:=top 36
abbrev iA:Stmt:=top 35
abbrev txI (i:Int):Str:=Str.ofString (toString i)
def Sm (i:Int):Prop:=0≤i∧i<10 ^ 10
theorem Sm.log {i:Int}(h:Sm i):i.natAbs.log2<1900:=by
 obtain⟨h0,h1⟩:=h
 by_cases z:i.natAbs=0
 ·rw[z];decide
 ·have:i.natAbs<2 ^ 1900:=Nat.lt_of_lt_of_le (show i.natAbs<10 ^ 10 by lia) (Nat.le_trans (show 10 ^ 10≤2 ^ 40 by decide) (Nat.pow_le_pow_right (show 0<2 by decide) (show 40≤1900 by decide)))
  exact(Nat.log2_lt z).mpr this
theorem Sm.len {i:Int}(h:Sm i):(txI i).length≤10:=W.KT.len_num h.1 h.2
def ax (c:Nat) (i j:Int):Str:=txI i++sg c++txI j
theorem dG {c:Nat}{i j:Int}(hi:Sm i) (hj:Sm j):(ax c i j).length≤21:=by
 unfold ax
 rw[Str.length_append,Str.length_append]
 have:=hi.len
 have:=hj.len
 show(txI i).length+1+(txI j).length≤21
 lia
section
variable {P:Program}{w:World}{K:W.Frag}{mg:Str->Option Value}{base:Heap}{CO CT:Addr}
def md:Sp:=fun vs H Q _=>∃(i j:Int) (c:Nat),vs=[.int i,.str (sg c),.int j]∧Sm i∧Sm j∧Q (.str (ax c i j)) H
theorem zN:FnScope ["one","sign","other"] ["one","sign","other"] (am qy):={}
theorem xK {f:Addr}{fd:FuncData}(F:Fun K "written_pair" "written_pair" qy f fd):FnOk P w K mg base CX0 1 f fd ["one","sign","other"] md:=by
 refine F.ok zN (fun vs H Q E h=>?_) (fun cdv A outer s H vs Q E hr h=>?_)
 ·obtain⟨i,j,c,rfl,_⟩:=h
  rfl
 obtain⟨i,j,c,rfl,hi,hj,q⟩:=h
 refine⟨_,ai (aL (xI (sx (pv 0)) (zI (pv 1)) (sx (pv 2)))),?_⟩
 have l1:=hi.len
 have l2:=hj.len
 exact⟨txI i,sg c,txI j,⟨_,rfl,rfl,i,rfl,hi.log,rfl⟩,⟨_,rfl,rfl,rfl,(by show 1≤sizeLine;decide)⟩,⟨_,rfl,rfl,j,rfl,hj.log,rfl⟩,by rw[sizeLine_eq];show _+1+_≤_;lia,q⟩
def aW (r:Bk.Room):Str:=Txt.join (sg 32) (r.map fun d=>ax 58 d.1 d.2)
def SmR (r:Bk.Room):Prop:=r.length≤100∧∀d∈r,Sm d.1∧Sm d.2
theorem gX {α:Type}{f:α->Nat}{B:Nat}:∀{l:List α},(∀a∈l,f a≤B)->(l.map f).sum≤l.length*B
 | [],_=>Nat.zero_le _
 | a::l,h=>by
  have:=gX (l:=l) fun b hb=>h b (List.mem_cons_of_mem _ hb)
  have:=h a (List.mem_cons_self ..)
  rw[List.map_cons,List.sum_cons,List.length_cons,Nat.succ_mul]
  lia
def sB (K:W.Frag):Sp:=fun vs H Q _=>∃(x:V) (r:Bk.Room),vs=[x]∧bg K H x r∧SmR r∧∀H',ar H H'->Q (.str (aW r)) H'
theorem zO:FnScope ["room"] ["room"] (am lx):={}
theorem xL {f:Addr}{fd:FuncData}(F:Fun K "written_room" "written_room" lx f fd) (WP:Df P w K mg base CX0 1 "written_pair" ["one","sign","other"] md):FnOk P w K mg base CX0 2 f fd ["room"] (sB K):=by
 refine F.ok zO (fun vs H Q E h=>?_) (fun cdv A outer s H vs Q E hr h=>?_)
 ·obtain⟨x,r,rfl,_⟩:=h
  rfl
 obtain⟨x,r,rfl,⟨a,xs,rfl,qa,pr⟩,⟨rl,sm⟩,q⟩:=h
 refine⟨_,ai (aL (bP PySem.F.plainAttrs_str PySem.F.slot_str_join PySem.F.type_str_join jH aE (ac (qk (g:=wu K 2 (kB (fZ 0) (kB (fZ 1) wt))) rfl (show DScope (am lx) ["room"] _ "thing" "number" from by constructor <;> decide +kernel) (gI (pv 0)) (fun _ _ _ _ _ _=>cw)
  (fun cl C s₂ H₂ fp aa=>aF WP hr rfl pS (ac (pv 0) (ac aE (ac (pv 1) ae))))
  (fun cl C s₂ H₂ fp aa nd hx hz=>uD rfl (hJ (bQ (i:=0) nd rfl hx.1 (Or.inr hx.2)) (hJ (bQ (i:=1) nd rfl hz.1 (Or.inr hz.2)) rD)))) ae))),?_⟩
 have xl:=pr.length
 refine⟨rfl,_,rfl,a,rfl,⟨_,qa⟩,nB (K:=K) (a:=a) (xs:=xs) (fun j us H3=>H3=H∧us=((r.take j).map fun d=>ax 58 d.1 d.2).map V.str) ⟨rfl,rfl⟩ ?_ (by rw[sizeLine_eq];lia) ?_ ?_⟩
 ·rintro j us H3 _ ⟨rfl,rfl⟩
  rw[List.length_map,List.length_map,List.length_take]
  exact⟨qa,by lia⟩
 ·rintro j y us H3 u v hy ⟨rfl,rfl⟩
  obtain⟨d,hd,p,rfl,qd⟩:=bR pr hy
  obtain⟨d1,d2⟩:=sm d (List.mem_of_getElem? hd)
  refine⟨p,_,rfl,qd,rfl,.int d.1,_,rfl,.int d.2,_,rfl,rfl,_,_,rfl,goT (aG ⟨_,rfl,_,rfl,d.1,d.2,58,congrArg (fun x=>[V.int d.1,V.str x,V.int d.2]) fL,d1,d2,rfl,?_⟩)⟩
  rw[aR hd,List.map_append,List.map_append]
  rfl
 ·rintro us H3 p ⟨rfl,rfl⟩ hp
  rw[xl,List.take_length]
  have e1:(((r.map fun d=>ax 58 d.1 d.2)).map (·.length)).sum+((r.map fun d=>ax 58 d.1 d.2)).length*(sg 32).length≤16777216:=by
   rw[List.map_map,List.length_map]
   have:=gX (l:=r) (f:=(fun x:Str=>x.length)∘fun d=>ax 58 d.1 d.2) (B:=21) fun d hd=>dG (sm d hd).1 (sm d hd).2
   show _+r.length*1≤_
   lia
  have s4:=ak hp (.lst (((r.map fun d=>ax 58 d.1 d.2)).map V.str))
  have q4:=q _ s4
  have h4:SqL K (upd H3 p (.lst (((r.map fun d=>ax 58 d.1 d.2)).map V.str))) p (((r.map fun d=>ax 58 d.1 d.2)).map V.str):=SqL.of ag
  unfold aW at q4
  generalize (upd H3 p (.lst (((r.map fun d=>ax 58 d.1 d.2)).map V.str)))=H4 at q4 h4 ⊢
  generalize (r.map fun d=>ax 58 d.1 d.2)=ts at e1 q4 h4
  have e0:V.str " "=V.str (sg 32):=congrArg V.str dF
  exact⟨sg 32,p,ts,e0,rfl,h4,e1,q4⟩
end
end Ord
namespace Ord
open PySem L2 Mx
abbrev lz:Stmt:=top 48
structure SmB (m:Int) (rs:List Bk.Room) (f:Int):Prop where
 m:Sm m
 f:Sm f
 rs:∀r∈rs,SmR r
def eR (m:Int) (rs:List Bk.Room) (f:Int):Str:=Txt.join (sg 10) (ax 32 m f::rs.map aW)
theorem uc {r:Bk.Room}(h:SmR r):(aW r).length≤2200:=by
 have e:(aW r).length≤((r.map fun d=>ax 58 d.1 d.2).map (·.length)).sum+(r.map fun d=>ax 58 d.1 d.2).length*(sg 32).length:=by
  show(Builtin.Str.glued (sg 32) _).length≤_
  rw[StrLaws.glued_eq_join]
  exact StrLaws.join_length_le _ _
 rw[List.map_map,List.length_map] at e
 have:=gX (l:=r) (f:=(fun x:Str=>x.length)∘fun d=>ax 58 d.1 d.2) (B:=21) fun d hd=>dG (h.2 d hd).1 (h.2 d hd).2
 have l:=h.1
 have e':(aW r).length≤(r.map ((fun x:Str=>x.length)∘fun d=>ax 58 d.1 d.2)).sum+r.length*1:=e
 lia
theorem qz {m f:Int}{rs:List Bk.Room}(h:SmB m rs f) (few:rs.length<70):((ax 32 m f::rs.map aW).map (·.length)).sum+(ax 32 m f::rs.map aW).length*(sg 10).length≤16777216:=by
 rw[List.map_cons,List.sum_cons,List.map_map,List.length_cons,List.length_map]
 have:=gX (l:=rs) (f:=(fun x:Str=>x.length)∘aW) (B:=2200) fun r hr=>uc (h.rs r hr)
 have:=dG (c:=32) h.m h.f
 show _+_+(rs.length+1)*1≤_
 lia
section
variable {P:Program}{w:World}{K:W.Frag}{mg:Str->Option Value}{base:Heap}{CO CT CB:Addr}
def gr (K:W.Frag) (CB:Addr):Sp:=fun vs H Q E=>∃(x:V) (m:Int) (rs:List Bk.Room) (f:Int),vs=[x]∧BookA K H x m rs f∧rs.length<70∧(BOk m rs f->SmB m rs f∧∀H',ar H H'->Q (.str (eR m rs f)) H')∧(¬BOk m rs f->∀H',ar H H'->E (.ref CB) none H')
theorem ji:FnScope ["book","rows"] ["book"] (am iA):={}
theorem ud {f:Addr}{fd:FuncData}(F:Fun K "written" "written" iA f fd) (WB:Df P w K mg base (CX1 P w) 11 "look_book" ["book"] (jG K CB)) (WP:Df P w K mg base CX0 1 "written_pair" ["one","sign","other"] md) (WR:Df P w K mg base CX0 2 "written_room" ["room"] (sB K)):FnOk P w K mg base (CX1 P w) 12 f fd ["book"] (gr K CB):=by
 refine F.okX ji (fun vs H Q E h=>?_) (fun X cdv A outer s H vs Q E hX hp hra hr h=>?_)
 ·obtain⟨x,m,rs,f',rfl,_⟩:=h
  rfl
 obtain⟨x,m,rs,f',rfl,ba,few,zg,zb⟩:=h
 subst hX
 refine⟨_,af (bq (aF WB hr rfl hp (ac (pv 0) ae)))
  (af (ay (i:=1) ji.nd rfl (lc rfl) (bH (ac (aF WP (hr.mono (by decide)) rfl pS (ac (pxT K (pv 0) ao) (ac aE (ac (pxT K (pv 0) ao) ae)))) ae)))
  (ai (aL (bP PySem.F.plainAttrs_str PySem.F.slot_str_join PySem.F.type_str_join jH aE (ac (aA kF (pv 1)
   (eB rfl (show CScope (am iA) ["book","rows"] _ _ from by constructor <;> decide +kernel) (cg (pxT K (pv 0) ao)) (fun _ _ _ _ _ _=>cw)
    (fun cl C s₂ H₂ fp aa=>aF WR (hr.mono (by decide)) rfl pS (ac (pv 0) ae)) ji.nd)) ae))))),?_⟩
 refine⟨_,rfl,x,m,rs,f',rfl,ba,few,fun bok H1 s1=>?_,fun nb H1 s1=>zb nb H1 s1⟩
 obtain⟨sm,zq⟩:=zg bok
 obtain⟨b,l,xs,rfl,qb,ql,pr⟩:=(ba.same s1).ex
 have xl:=pr.length
 refine⟨_,rfl,b,_,0,.int m,rfl,rfl,qb,eQ,_,rfl,b,_,2,.int f',rfl,rfl,qb,br (j:=2) rfl,m,f',32,congrArg (fun x=>[V.int m,V.str x,V.int f']) dF,sm.m,sm.f,by show 1≤sizeLine;decide,fun l1 hl1=>?_⟩
 have s2:=ak hl1 (.lst [.str (ax 32 m f')])
 have h2:(upd H1 l1 (.lst [.str (ax 32 m f')])) l1=some (.lst [.str (ax 32 m f')]):=ag
 generalize (upd H1 l1 (.lst [.str (ax 32 m f')]))=H2 at s2 h2 ⊢
 have e0:V.str "\n"=V.str (sg 10):=congrArg V.str fE
 refine⟨rfl,_,rfl,_,rfl,b,_,1,.ref l,rfl,rfl,s2.seqT qb,br (j:=1) rfl,l,rfl,⟨_,s2.seqL ql⟩,eW (K:=K) (a:=l) (xs:=xs) (fun j us H3=>ar H2 H3∧us=((rs.take j).map aW).map V.str) ⟨ar.refl _,rfl⟩ ?_ (by rw[sizeLine_eq];lia) ?_ ?_⟩
 ·rintro j us H3 _ ⟨s3,rfl⟩
  rw[List.length_map,List.length_map,List.length_take]
  exact⟨(s2.trans s3).seqL ql,by lia⟩
 ·rintro j y us H3 hy ⟨s3,rfl⟩
  obtain⟨r,hr',ra⟩:=bR pr hy
  refine goT (aG ⟨_,rfl,y,r,rfl,ra.same (s2.trans s3),sm.rs r (List.mem_of_getElem? hr'),fun H4 s4=>⟨s3.trans s4,?_⟩⟩)
  rw[aR hr',List.map_append,List.map_append]
  rfl
 ·rintro us H3 p ⟨s3,rfl⟩ hp
  rw[xl,List.take_length]
  have s4:=ak hp (.lst ((rs.map aW).map V.str))
  have h4:(upd H3 p (.lst ((rs.map aW).map V.str))) p=some (.lst ((rs.map aW).map V.str)):=ag
  generalize (upd H3 p (.lst ((rs.map aW).map V.str)))=H4 at s4 h4 ⊢
  refine⟨l1,p,_,_,rfl,rfl,s4 _ _ (s3 _ _ h2),h4,by rw[List.length_map,List.length_map,sizeLine_eq];show 1+_≤_;lia,fun l5 hl5=>?_⟩
  have ec:[V.str (ax 32 m f')]++(rs.map aW).map V.str=(ax 32 m f'::rs.map aW).map V.str:=rfl
  have s5:=ak hl5 (.lst ([V.str (ax 32 m f')]++(rs.map aW).map V.str))
  have h5:SqL K (upd H4 l5 (.lst ([V.str (ax 32 m f')]++(rs.map aW).map V.str))) l5 ((ax 32 m f'::rs.map aW).map V.str):=SqL.of ag
  have q5:=zq _ (s1.trans (s2.trans (s3.trans (s4.trans s5))))
  unfold eR at q5
  have e1:=qz sm few
  generalize (upd H4 l5 (.lst ([V.str (ax 32 m f')]++(rs.map aW).map V.str)))=H5 at q5 h5 ⊢
  generalize (ax 32 m f'::rs.map aW)=ts at e1 q5 h5
  exact⟨sg 10,l5,ts,e0,rfl,h5,e1,q5⟩
end
end Ord
namespace Ord
open PySem L2 Mx
section
variable {P:Program}{w:World}{K:W.Frag}{mg:Str->Option Value}{base:Heap}{CO CT CB:Addr}
theorem lA:bootBuiltins "str"=some (.type "str"):=by decide +kernel
abbrev NLt:List Str:=["_law_book","_law_rows","_law_doors"]
def me (K:W.Frag):Sp:=fun vs H Q _=>∃(x:V) (m:Int) (rs:List Bk.Room) (f:Int),vs=[x]∧BookA K H x m rs f∧rs.length<70∧SmB m rs f∧∀H',ar H H'->Q (.str (eR m rs f)) H'
theorem mh:FnScope NLt ["_law_book"] (am lz):={}
theorem xM {f:Addr}{fd:FuncData}(F:Fun K "_law_text" "_law_text" lz f fd) (zs:mg "str"=none):FnOk P w K mg base CX0 1 f fd ["_law_book"] (me K):=by
 refine F.ok mh (fun vs H Q E h=>?_) (fun cdv A outer s H vs Q E hr h=>?_)
 ·obtain⟨x,m,rs,f',rfl,_⟩:=h
  rfl
 obtain⟨x,m,rs,f',rfl,ba,few,sm,zq⟩:=h
 refine⟨_,af (ay (i:=1) mh.nd rfl (lc rfl) (bH (ac (aA bL (aA bL (aZ dc rfl zs lA (ac (pxT K (pv 0) ao) ae)) aE) (aZ dc rfl zs lA (ac (pxT K (pv 0) ao) ae))) ae)))
  (af (cZ PassesOwn.never rfl (cg (pxT K (pv 0) ao)) (bQ (i:=2) mh.nd rfl (lc rfl))
   (ai (bq (bP PySem.F.plainAttrs_list PySem.F.slot_list_append PySem.F.type_list_append de (pv 1) (ac
    (bP PySem.F.plainAttrs_str PySem.F.slot_str_join PySem.F.type_str_join jH aE (ac (qk (g:=wu K 2 (kB (fZ 0) (kB (fZ 1) wt))) rfl (show DScope (am lz) NLt _ "_law_thing" "_law_other" from by constructor <;> decide +kernel) (gI (pv 2)) (fun _ _ _ _ _ _=>cw)
     (fun cl C s₂ H₂ fp aa=>aA bL (aA bL (aZ dc rfl zs lA (ac (pv 0) ae)) aE) (aZ dc rfl zs lA (ac (pv 1) ae)))
     (fun cl C s₂ H₂ fp aa nd hx hz=>uD rfl (hJ (bQ (i:=0) nd rfl hx.1 (Or.inr hx.2)) (hJ (bQ (i:=1) nd rfl hz.1 (Or.inr hz.2)) rD)))) ae)) ae)))))
  (ai (aL (bP PySem.F.plainAttrs_str PySem.F.slot_str_join PySem.F.type_str_join jH aE (ac (pv 1) ae))))),?_⟩
 obtain⟨b,l,xs,rfl,qb,ql,pr⟩:=ba.ex
 have xl:=pr.length
 have lg:∀{i:Int},Sm i->i.natAbs.log2<1920:=fun h=>by have:=h.log;lia
 have l1:∀{i:Int}{c:Nat}{y:Str},y=sg c->Sm i->(txI i).length+y.length≤sizeLine:=fun e h=>by subst e;have:=h.len;rw[sizeLine_eq];show _+1≤_;lia
 have l2:∀{i j:Int}{c:Nat}{y:Str},y=sg c->Sm i->Sm j->(txI i++y).length+(txI j).length≤sizeLine:=fun e h h'=>by subst e;have:=h.len;have:=h'.len;rw[sizeLine_eq,Str.length_append];show _+1+_≤_;lia
 refine⟨_,rfl,b,_,0,.int m,rfl,rfl,qb,eQ,m,rfl,lg sm.m,txI m,_,rfl,rfl,l1 dF sm.m,_,rfl,b,_,2,.int f',rfl,rfl,qb,br (j:=2) rfl,f',rfl,lg sm.f,_,txI f',rfl,rfl,l2 dF sm.m sm.f,by show 1≤sizeLine;decide,fun lr hlr=>?_⟩
 have ep:txI m++(" ":Str)++txI f'=ax 32 m f':=by unfold ax;rw[dF]
 rw[ep]
 have s2:=ak hlr (.lst [.str (ax 32 m f')])
 have h2:(upd H lr (.lst [.str (ax 32 m f')])) lr=some (.lst [.str (ax 32 m f')]):=ag
 generalize (upd H lr (.lst [.str (ax 32 m f')]))=H2 at s2 h2 ⊢
 refine⟨_,rfl,b,_,1,.ref l,rfl,rfl,s2.seqT qb,br (j:=1) rfl,l,rfl,⟨_,s2.seqL ql⟩,dZ (K:=K) (a:=l) (xs:=xs) (fun i σ H3=>∃v2,σ=[some (.ref b),some (.ref lr),v2]∧ar H H3∧H3 lr=some (.lst ((ax 32 m f'::(rs.take i).map aW).map V.str))) ⟨none,rfl,s2,h2⟩ ?_ ?_ ?_⟩
 ·rintro i σ H3 _ ⟨v2,rfl,s3,_⟩
  exact s3.seqL ql
 ·rintro i y σ H3 hy ⟨v2,rfl,s3,h3⟩
  obtain⟨r,hr',a,ds,rfl,qa,pd⟩:=bR pr hy
  have smr:=sm.rs r (List.mem_of_getElem? hr')
  have dl:=pd.length
  have rl:=smr.1
  have qa3:=s3.seqT qa
  refine⟨_,rfl,.inl ⟨rfl,_,SqL.of h3⟩,rfl,_,rfl,a,rfl,⟨_,qa3⟩,nB (K:=K) (a:=a) (xs:=ds) (fun j us H4=>H4=H3∧us=((r.take j).map fun d=>ax 58 d.1 d.2).map V.str) ⟨rfl,rfl⟩ ?_ (by rw[sizeLine_eq];lia) ?_ ?_⟩
  ·rintro j us H4 _ ⟨rfl,rfl⟩
   rw[List.length_map,List.length_map,List.length_take]
   exact⟨qa3,by lia⟩
  ·rintro j y us H4 u v hy ⟨rfl,rfl⟩
   obtain⟨d,hd,p,rfl,qd⟩:=bR pd hy
   obtain⟨d1,d2⟩:=smr.2 d (List.mem_of_getElem? hd)
   have ed:txI d.1++(":":Str)++txI d.2=ax 58 d.1 d.2:=by unfold ax;rw[fL]
   refine⟨p,_,rfl,s3.seqT qd,rfl,.int d.1,_,rfl,.int d.2,_,rfl,rfl,_,_,rfl,goT (aG ⟨_,rfl,d.1,rfl,lg d1,txI d.1,_,rfl,rfl,l1 fL d1,_,rfl,d.2,rfl,lg d2,_,txI d.2,rfl,rfl,l2 fL d1 d2,rfl,?_⟩)⟩
   rw[ed,aR hd,List.map_append,List.map_append]
   rfl
  ·rintro us H4 p ⟨rfl,rfl⟩ hp
   rw[dl,List.take_length]
   have e1:(((r.map fun d=>ax 58 d.1 d.2)).map (·.length)).sum+((r.map fun d=>ax 58 d.1 d.2)).length*(sg 32).length≤16777216:=by
    rw[List.map_map,List.length_map]
    have:=gX (l:=r) (f:=(fun x:Str=>x.length)∘fun d=>ax 58 d.1 d.2) (B:=21) fun d hd=>dG (smr.2 d hd).1 (smr.2 d hd).2
    show _+r.length*1≤_
    lia
   have s4:=ak hp (.lst (((r.map fun d=>ax 58 d.1 d.2)).map V.str))
   have h4:SqL K (upd H4 p (.lst (((r.map fun d=>ax 58 d.1 d.2)).map V.str))) p (((r.map fun d=>ax 58 d.1 d.2)).map V.str):=SqL.of ag
   have hroom:aW r=Txt.join (sg 32) (r.map fun d=>ax 58 d.1 d.2):=rfl
   generalize (upd H4 p (.lst (((r.map fun d=>ax 58 d.1 d.2)).map V.str)))=H5 at s4 h4 ⊢
   generalize (r.map fun d=>ax 58 d.1 d.2)=ts at e1 h4 hroom
   have e0:V.str " "=V.str (sg 32):=congrArg V.str dF
   refine⟨sg 32,p,ts,e0,rfl,h4,e1,?_⟩
   rw[←hroom]
   have tl:(rs.take i).length≤70:=by rw[List.length_take];lia
   refine⟨lr,_,_,rfl,rfl,s4 _ _ h3,by rw[List.length_map,List.length_cons,List.length_map,sizeLine_eq];lia,_,rfl,fun c u q=>?_,?_⟩
   ·rw[ap (au q hlr)]
    exact s4 _ _ (s3 _ _ q)
   ·rw[ag,aR hr',List.map_append,←List.cons_append,List.map_append]
    rfl
 ·rintro σ H3 ⟨v2,rfl,s3,h3⟩
  rw[xl,List.take_length] at h3
  have q5:=zq _ s3
  unfold eR at q5
  have e1:=qz sm few
  have e0:V.str "\n"=V.str (sg 10):=congrArg V.str fE
  generalize (ax 32 m f'::rs.map aW)=ts at e1 q5 h3
  exact⟨rfl,_,rfl,sg 10,lr,ts,e0,rfl,SqL.of h3,e1,q5⟩
end
end Ord
namespace Ord
open PySem L2 Mx
abbrev lB:Stmt:=top 49
def eS (z:Str):Prop:=NumT z∧z.length≤5
theorem jJ {a b:Str}(h:a.cps.toList=b.cps.toList):a=b:=Str.ext' (Array.toList_inj.mp h)
theorem A4:∀(n:Nat) (cs:List Nat),cs.length=n->NumText.AllDigits cs->NumText.digitsVal cs<10 ^ n:=fun n=>by
 induction n with
 | zero=>intro cs h _;rw[List.length_eq_zero_iff.mp h];decide
 | succ n ih=>
  intro cs h d
  rcases List.eq_nil_or_concat cs with e|⟨ds,x,e⟩
  ·rw[e] at h;cases h
  subst e
  rw[List.concat_eq_append] at *
  have hx:=d x (List.mem_append_right _ (List.mem_singleton.mpr rfl))
  have hl:ds.length=n:=by rw[List.length_append] at h;have:ds.length+1=n+1:=h;lia
  have:=ih ds hl fun y hy=>d y (List.mem_append_left _ hy)
  rw[Tx.val_snoc,Nat.pow_succ]
  lia
theorem zP {z:Str}(d:NumText.AllDigits z.cps.toList) (l:z.cps.toList.length≤5):(bW z).natAbs.log2<1920:=by
 have h:=A4 _ _ rfl d
 have h5:NumText.digitsVal z.cps.toList<10 ^ 5:=Nat.lt_of_lt_of_le h (Nat.pow_le_pow_right (by decide) l)
 have e:(bW z).natAbs=NumText.digitsVal z.cps.toList:=Int.natAbs_natCast _
 rw[e]
 by_cases c:NumText.digitsVal z.cps.toList=0
 ·rw[c];decide
 ·have:=(Nat.log2_lt c).mpr (show NumText.digitsVal z.cps.toList<2 ^ 40 from Nat.lt_trans h5 (by decide))
  lia
theorem sC {z:Str}(d:NumText.AllDigits z.cps.toList) (ne:z.cps.toList≠[]):txI (bW z)=z↔Tx.Canon z.cps.toList:=by
 have e:=W.KIN.signs_num (NumText.digitsVal z.cps.toList)
 constructor
 ·intro h
  refine Tx.canon_of d ne ?_
  rw[←e]
  exact congrArg (fun x:Str=>x.cps.toList) h
 ·intro c
  exact jJ (e.trans (Tx.canon_back _ _ rfl c).1)
section
variable {P:Program}{w:World}{K:W.Frag}{mg:Str->Option Value}{base:Heap}{CO CT CB:Addr}
abbrev NLn:List Str:=["_law_words","_law_found","_law_word"]
def sD (K:W.Frag):Sp:=fun vs H Q _=>∃(l:Addr) (ws:List Str),vs=[.ref l]∧H l=some (.lst (ws.map V.str))∧ws.length≤200000∧(∀z∈ws,z.length≤100000)∧
 ((∀z∈ws,eS z)->∀(p:Addr) (H':Hp),ar H H'->H' p=some (.tup ((ws.map bW).map V.int))->Q (.ref p) H')∧(¬(∀z∈ws,eS z)->∀H',ar H H'->Q .non H')
theorem jK:FnScope NLn ["_law_words"] (am lB):={}
theorem xN {f:Addr}{fd:FuncData}(F:Fun K "_law_numbers" "_law_numbers" lB f fd) (T:TxB K mg CO) (zs:mg "str"=none):FnOk P w K mg base CX0 1 f fd ["_law_words"] (sD K):=by
 refine F.ok jK (fun vs H Q E h=>?_) (fun cdv A outer s H vs Q E hr h=>?_)
 ·obtain⟨l,ws,rfl,_⟩:=h
  rfl
 obtain⟨l,ws,rfl,hl,wl,sh,zg,zb⟩:=h
 refine⟨_,af (ay (i:=1) jK.nd rfl (lc rfl) (bH ae))
  (af (cZ PassesOwn.never rfl (cg (pv 0)) (bQ (i:=2) jK.nd rfl (lc rfl))
   (af (aQ (PW.pt (fG (aI dz (pv 2) aE (aM _)) (fG (aI x8 (aw eM rfl T.t.len bM (ac (pv 2) ae)) ao (aM _))
     (fG (bV (cA (aw (im rfl) rfl T.t.all nZ (ac (eB rfl (show CScope (am lB) NLn _ _ from by constructor <;> decide +kernel) (vM (pv 2)) (fun _ _ _ _ _ _=>cw)
      (fun cl C s₂ H₂ fp aa=>dA my (pv 0) aE rfl) jK.nd) ae))))
     (fN (aI fm (aZ dc rfl zs lA (ac (aZ fF rfl T.t.int nY (ac (pv 2) ae)) ae)) (pv 2) (aM _))))))) (ai (aL cz)) aB)
   (ai (bq (bP PySem.F.plainAttrs_list PySem.F.slot_list_append PySem.F.type_list_append de (pv 1) (ac (aZ fF rfl T.t.int nY (ac (pv 2) ae)) ae))))))
  (ai (aL (aZ dS rfl T.t.tuple eE (ac (pv 1) ae))))),?_⟩
 refine⟨by show 0≤sizeLine;lia,fun lf hlf=>?_⟩
 have s1:=ak hlf (.lst [])
 have h1:(upd H lf (.lst [])) lf=some (.lst []):=ag
 generalize (upd H lf (.lst []))=H1 at s1 h1 ⊢
 refine⟨_,rfl,l,rfl,⟨_,SqL.of (s1 _ _ hl)⟩,dZ (K:=K) (a:=l) (xs:=ws.map V.str) (fun i σ H2=>∃v2,σ=[some (.ref l),some (.ref lf),v2]∧ar H H2∧H2 lf=some (.lst (((ws.take i).map bW).map V.int))∧∀z∈ws.take i,eS z) ⟨none,rfl,s1,h1,fun z hz=>by cases hz⟩ ?_ ?_ ?_⟩
 ·rintro i σ H2 _ ⟨v2,rfl,s2,_⟩
  exact SqL.of (s2 _ _ hl)
 ·rintro i x σ H2 hx ⟨v2,rfl,s2,h2,al⟩
  rw[List.getElem?_map] at hx
  obtain⟨z,hz,rfl⟩:=Option.map_eq_some_iff.mp hx
  have zm:=List.mem_of_getElem? hz
  have z1:=sh z zm
  have hz':z.length≤sizeLine:=by rw[sizeLine_eq];lia
  have no:∀{H'},ar H H'->¬eS z->Q .non H':=fun s' n=>zb (fun h=>n (h z zm)) _ s'
  have zl:z.cps.toList.length=z.length:=by rw[Array.length_toList];rfl
  refine⟨_,rfl,rfl,_,rfl,?_⟩
  by_cases c0:z.length=0
  case pos=>
   rw[decide_eq_true (show V.str z=V.str "" from congrArg V.str (jJ (by
    rw[List.length_eq_zero_iff.mp (zl.trans c0)]
    decide +kernel)))]
   exact aG (aG (no s2 fun n=>by have:=n.1.lo;lia))
  rw[decide_eq_false (fun h=>c0 (by rw[V.str.inj h];decide +kernel))]
  refine aO ⟨_,rfl,z,rfl,hz',_,_,rfl,rfl,_,rfl,?_⟩
  by_cases c1:z.length≤5
  case neg=>
   rw[decide_eq_true (show(5:Int)<(z.length:Int) from by lia)]
   exact aG (aG (no s2 fun n=>c1 n.2))
  rw[decide_eq_false (show ¬(5:Int)<(z.length:Int) from by lia)]
  refine aO ?_
  have el:z.cps.size=z.length:=rfl
  refine⟨_,rfl,z,rfl,qo (z:=z) (fun j ys H'=>H'=H2∧ys=((z.cps.toList.take j).map fun c=>decide (c∈dM)).map V.bl) ⟨rfl,rfl⟩ ?_ (by lia) ?_ ?_⟩
  ·rintro i ys H' hi ⟨_,rfl⟩
   rw[List.length_map,List.length_map,List.length_take]
   lia
  ·rintro i c ys H' hc ⟨rfl,rfl⟩
   refine goT (aG ⟨_,rfl,_,_,rfl,rfl,rfl,?_⟩)
   have hc':z.cps.toList[i]?=some c:=by rw[←hc];simp
   rw[aR hc',List.map_append,List.map_append]
   congr 1
   show [V.bl _]=[V.bl (decide (c∈dM))]
   rw[show(sg c)=(⟨#[c]⟩:Str) from rfl,StrLaws.found_one]
  ·rintro ys H' p ⟨rfl,rfl⟩ hp
   have eL:z.cps.toList.take z.cps.size=z.cps.toList:=List.take_of_length_le (by simp)
   rw[eL]
   have s3:=ak hp (.lst ((z.cps.toList.map fun c=>decide (c∈dM)).map V.bl))
   generalize hH:(upd H' p (.lst ((z.cps.toList.map fun c=>decide (c∈dM)).map V.bl)))=H3 at s3 ⊢
   refine⟨p,_,rfl,by rw[←hH];exact SqL.of ag,_,rfl,?_⟩
   by_cases c3:NumText.AllDigits z.cps.toList
   case neg=>
    rw[show((z.cps.toList.map fun c=>decide (c∈dM)).all id)=false from by
     rw[List.all_map]
     cases h:(z.cps.toList.all (id∘fun c=>decide (c∈dM))) with
     | false=>rfl
     | true=>exact absurd (fun c hc=>(iy c).mp (of_decide_eq_true (List.all_eq_true.mp h c hc))) c3]
    exact aG (aG (no (s2.trans s3) fun n=>c3 n.1.cn.dg))
   rw[show((z.cps.toList.map fun c=>decide (c∈dM)).all id)=true from by
    rw[List.all_map]
    exact List.all_eq_true.mpr fun c hc=>decide_eq_true ((iy c).mpr (c3 c hc))]
   have ne:z.cps.toList≠[]:=fun e=>c0 (by rw[←zl,e];rfl)
   have it:intText? z=some (bW z):=intText_digits c3 ne (by lia)
   have sm:(bW z).natAbs.log2<1920:=zP c3 (by lia)
   refine aO ⟨_,rfl,z,bW z,rfl,it,by lia,bW z,rfl,sm,_,rfl,rfl,_,rfl,?_⟩
   by_cases c4:Tx.Canon z.cps.toList
   case neg=>
    rw[decide_eq_false (fun h=>c4 ((sC c3 ne).mp (V.str.inj h)))]
    exact aG (no (s2.trans s3) fun n=>c4 n.1.cn)
   rw[decide_eq_true (show V.str (txI (bW z))=V.str z from congrArg V.str ((sC c3 ne).mpr c4))]
   have nl:eS z:=⟨⟨by lia,by lia,c4⟩,c1⟩
   refine aO ⟨_,rfl,.inl ⟨rfl,_,SqL.of (s3 _ _ h2)⟩,_,rfl,z,bW z,rfl,it,by lia,lf,_,_,rfl,rfl,s3 _ _ h2,by rw[List.length_map,List.length_map,List.length_take,sizeLine_eq];lia,_,rfl,fun c u q=>?_,?_,fun z' hz'=>?_⟩
   ·rw[ap (au q hlf)]
    exact s3 _ _ (s2 _ _ q)
   ·rw[ag,aR hz,List.map_append,List.map_append]
    rfl
   ·rw[aR hz] at hz'
    rcases List.mem_append.mp hz' with h|h
    ·exact al z' h
    ·rw[List.mem_singleton.mp h];exact nl
 ·rintro σ H2 ⟨v2,rfl,s2,h2,al⟩
  rw[List.length_map,List.take_length] at h2 al
  exact⟨_,rfl,lf,_,rfl,.inl ⟨SqL.of h2,fun r hr0=>zg al r _ (s2.trans (ak hr0 _)) ag⟩⟩
end
end Ord
namespace Ord
open PySem L2 Mx
abbrev fc:Stmt:=top 50
def cQ (c:Nat) (z:Str) (d:Int×Int):Prop:=∃a b:Str,Txt.split z (sg c)=[a,b]∧eS a∧eS b∧d=(bW a,bW b)
def gu (z:Str) (r:Bk.Room):Prop:=Paired (cQ 58) (Txt.split z (sg 32)) r
def gv (z:Str) (m:Int) (rs:List Bk.Room) (f:Int):Prop:=∃h rows,Txt.split z (sg 10)=h::rows∧cQ 32 h (m,f)∧Paired gu rows rs
def DI (K:W.Frag) (H:Hp) (y:V) (z:Str):Prop:=((∀a∈Txt.split z (sg 58),eS a)∧∃p,y=.ref p∧H p=some (.tup (((Txt.split z (sg 58)).map bW).map V.int)))∨(¬(∀a∈Txt.split z (sg 58),eS a)∧y=.non)
noncomputable def gD (z:Str):Bool:=@decide (∃d,cQ 58 z d) (Classical.propDecidable _)
theorem lC {z:Str}:gD z=true↔∃d,cQ 58 z d:=by
 unfold gD
 exact @decide_eq_true_iff _ (Classical.propDecidable _)
theorem A5 {l:List Str}(h:l.length=2):∃a b,l=[a,b]:=by
 match l,h with
 | [a,b],_=>exact⟨a,b,rfl⟩
theorem qA {c:Nat}{z:Str}(h:∀a∈Txt.split z (sg c),eS a) (l:(Txt.split z (sg c)).length=2):∃a b,Txt.split z (sg c)=[a,b]∧cQ c z (bW a,bW b):=by
 obtain⟨a,b,e⟩:=A5 l
 rw[e] at h
 exact⟨a,b,e,a,b,e,h a (by simp),h b (by simp),rfl⟩
theorem j8 {c:Nat}{z:Str}(h:¬((∀a∈Txt.split z (sg c),eS a)∧(Txt.split z (sg c)).length=2)) (d:Int×Int):¬cQ c z d:=fun⟨a,b,e,na,nb,_⟩=>h ⟨fun x hx=>by
 rw[e] at hx
 rcases List.mem_cons.mp hx with rfl|hx
 ·exact na
 ·rw[List.mem_singleton.mp hx];exact nb,by rw[e];rfl⟩
theorem yo {z:Str}(h:¬((∀a∈Txt.split z (sg 58),eS a)∧(Txt.split z (sg 58)).length=2)):gD z=false:=by
 cases e:gD z with
 | false=>rfl
 | true=>obtain⟨d,q⟩:=lC.mp e;exact absurd q (j8 h d)
section
variable {P:Program}{w:World}{K:W.Frag}{mg:Str->Option Value}{base:Heap}{CO CT CB:Addr}
theorem sE {H:Hp}{a d:Addr}{xs us:List V}{o:HO}(hd:H d=some (.lst us)) (h:SqT K H a xs):SqT K (upd H d o) a xs:=by
 rcases h with(h|⟨ob,h⟩)|h
 ·exact .inl (.inl (by rw[ap (by rintro rfl;rw[hd] at h;cases h)];exact h))
 ·exact .inl (.inr ⟨ob,by rw[ap (by rintro rfl;rw[hd] at h;cases h)];exact h⟩)
 ·exact .inr h
theorem nE {H:Hp}{d:Addr}{x:V}{r:Bk.Room}{us:List V}{o:HO}(hd:H d=some (.lst us)) (h:bg K H x r):bg K (upd H d o) x r:=by
 obtain⟨a,xs,e,q,p⟩:=h
 exact⟨a,xs,e,sE hd q,aJ (fun _ _ ⟨p,e,q⟩=>⟨p,e,sE hd q⟩) p⟩
theorem DI.same {H H':Hp}{y:V}{z:Str}(s:ar H H') (h:DI K H y z):DI K H' y z:=h.imp (fun⟨a,p,e,q⟩=>⟨a,p,e,s _ _ q⟩) id
theorem qB {H:Hp}:∀{ds:List V}{zs:List Str},Paired (DI K H) ds zs->(∀z∈zs,∃e,cQ 58 z e)->∃r,Paired (cQ 58) zs r∧Paired (dU K H) ds r
 | _,_,.nil,_=>⟨[],.nil,.nil⟩
 | _,_,.cons (b:=z) h t,g=>by
  obtain⟨r,p1,p2⟩:=qB t fun z hz=>g z (List.mem_cons_of_mem _ hz)
  obtain⟨e,pe⟩:=g z (List.mem_cons_self ..)
  obtain⟨a,b,es,na,nb,ee⟩:=id pe
  refine⟨e::r,.cons pe p1,.cons ?_ p2⟩
  rcases h with⟨_,p,e1,hp⟩|⟨no,_⟩
  ·rw[es] at hp
   subst ee
   exact⟨p,e1,SqT.of hp⟩
  ·exact absurd (fun x hx=>by
    rw[es] at hx
    rcases List.mem_cons.mp hx with rfl|hx
    ·exact na
    ·rw[List.mem_singleton.mp hx];exact nb) no
abbrev scW:Scope:={ kind:=.function,names:=[(".0",.local),("_law_word",.local),("_law_numbers",.globalImplicit)],isGenerator:=false,isCoroutine:=false }
abbrev NTr:List Str:=["_law_text_here","_law_rows","_law_head","_law_some","_law_row","_law_doors"]
def j9 (K:W.Frag):Sp:=fun vs H Q _=>∃z:Str,vs=[.str z]∧z.length≤100000∧(Txt.split z (sg 10)).length≤70∧
 (∀m rs f,gv z m rs f->∀(x:V) (H':Hp),ar H H'->BookA K H' x m rs f->Q x H')∧((∀m rs f,¬gv z m rs f)->∀H',ar H H'->Q .non H')
theorem eo:FnScope NTr ["_law_text_here"] (am fc):={}
theorem vQ {f:Addr}{fd:FuncData}(F:Fun K "_law_tried" "_law_tried" fc f fd) (T:TxB K mg CO) (WN:Df P w K mg base CX0 1 "_law_numbers" ["_law_words"] (sD K)):FnOk P w K mg base CX0 2 f fd ["_law_text_here"] (j9 K):=by
 refine F.ok eo (fun vs H Q E h=>?_) (fun cdv A outer s H vs Q E hr h=>?_)
 ·obtain⟨z,rfl,_⟩:=h
  rfl
 obtain⟨z,rfl,hz,h70,zg,zb⟩:=h
 refine⟨_,af (ay (i:=1) eo.nd rfl (lc rfl) (bP PySem.F.plainAttrs_str PySem.F.slot_str_split PySem.F.type_str_split dw (pv 0) (ac aE ae)))
  (af (ay (i:=2) eo.nd rfl (lc rfl) (aF WN hr rfl pS (ac (bP PySem.F.plainAttrs_str PySem.F.slot_str_split PySem.F.type_str_split dw (bT (show IxR _ (dJ K) from bA) (pv 1) ao (fun _ _=>rfl)) (ac aE ae)) ae)))
  (af (aQ (PW.pt (fG (aI iQ (pv 2) cz (aM _)) (fN (aI fm (aw aN rfl T.t.len bM (ac (pv 2) ae)) ao (aM _))))) (ai (aL cz)) aB)
  (af (ay (i:=3) eo.nd rfl (lc rfl) (bH ae))
  (af (cZ PassesOwn.never rfl (cg (cG jn (pv 1) (cT ao) cS)) (bQ (i:=4) eo.nd rfl (lc rfl))
   (af (si (i0:=5) eo.nd rfl (lc rfl) rfl (show CScope (am fc) NTr _ _ from by constructor <;> decide +kernel) (cg (bP PySem.F.plainAttrs_str PySem.F.slot_str_split PySem.F.type_str_split dw (pv 4) (ac aE ae))) (fun _ _ _ _ _ _=>cw)
     (fun cl C s₂ H₂ fp aa=>aF (X:=cxC (bw CX0 P w K mg base NTr "_law_tried" (am fc) f cdv A outer s H E).nox scW cl "_law_word" C s₂ H₂ fp aa) WN hr rfl pS (ac (show PE (cxC (bw CX0 P w K mg base NTr "_law_tried" (am fc) f cdv A outer s H E).nox scW cl "_law_word" C s₂ H₂ fp aa) _ (tBM K "str" vL (ox 0) (ya (tC (V.str ":")) wD)) from bP PySem.F.plainAttrs_str PySem.F.slot_str_split PySem.F.type_str_split dw (pv 0) (ac aE ae) (hline:=?hl)) ae)) rfl)
   (af (aQ (bV (cA (aw (im rfl) rfl T.t.all nZ (ac (eB rfl (show CScope (am fc) NTr _ _ from by constructor <;> decide +kernel) (cg (pv 5)) (fun _ _ _ _ _ _=>cw)
     (fun cl C s₂ H₂ fp aa=>fO (dA rH (pv 0) cz (aM _)) (iP (dA dz (aw (show cm _ _ (fun xs H Q=>∃p ys,xs=[V.ref p]∧(SqL K H p ys∨SqT K H p ys)∧Q (V.int ys.length) H) from aN) rfl T.t.len bM (ac (pv 0) ae)) ao (aM _)))) eo.nd) ae)))) (ai (aL cz)) aB)
   (ai (bq (bP PySem.F.plainAttrs_list PySem.F.slot_list_append PySem.F.type_list_append de (pv 3) (ac (aZ dS rfl T.t.tuple eE (ac (pv 5) ae)) ae)))))))
  (ai (aL (eK (ac (pxT K (pv 2) ao) (ac (pv 3) (ac (pxT K (pv 2) ao) ae)))))))))),?_⟩
 case hl=>rfl
 have hz':z.length+2≤sizeLine:=by rw[sizeLine_eq];lia
 have e10:[V.str "\n"]=[V.str (sg 10)]:=congrArg (fun x=>[V.str x]) fE
 have e32:[V.str " "]=[V.str (sg 32)]:=congrArg (fun x=>[V.str x]) dF
 have e58:[V.str ":"]=[V.str (sg 58)]:=congrArg (fun x=>[V.str x]) fL
 refine⟨_,rfl,rfl,z,sg 10,rfl,e10,rfl,hz',fun l hl=>?_⟩
 have s1:=ak hl (.lst ((Txt.split z (sg 10)).map V.str))
 have h1:(upd H l (.lst ((Txt.split z (sg 10)).map V.str))) l=some (.lst ((Txt.split z (sg 10)).map V.str)):=ag
 generalize (upd H l (.lst ((Txt.split z (sg 10)).map V.str)))=H1 at s1 h1 ⊢
 obtain⟨hd,rows,er⟩:∃hd rows,Txt.split z (sg 10)=hd::rows:=by
  have:=PyProof.Rows.split_pos z (sg 10)
  cases h:Txt.split z (sg 10) with
  | nil=>rw[h] at this;exact absurd this (by decide)
  | cons a b=>exact⟨a,b,rfl⟩
 have short:∀a∈hd::rows,a.length≤100000:=fun a ha=>Nat.le_trans (PyProof.Rows.part_short (x:=z) (y:=sg 10) (by rw[er];exact ha)) hz
 have parts:∀(a:Str) (c:Nat),a.length≤100000->(Txt.split a (sg c)).length≤200000∧∀b∈Txt.split a (sg c),b.length≤100000:=fun a c ha=>by
  have:=PyProof.Rows.split_le a (sg c)
  exact⟨by lia,fun b hb=>Nat.le_trans (PyProof.Rows.part_short hb) ha⟩
 rw[er] at h1
 rw[er,List.length_cons] at h70
 have lh:=short hd (List.mem_cons_self ..)
 obtain⟨p1,p2⟩:=parts hd 32 lh
 refine⟨_,rfl,l,_,0,.str hd,rfl,rfl,SqL.of h1,eQ,rfl,hd,sg 32,rfl,e32,rfl,by rw[sizeLine_eq];lia,fun l2 hl2=>?_⟩
 have s2:=ak hl2 (.lst ((Txt.split hd (sg 32)).map V.str))
 have h2:(upd H1 l2 (.lst ((Txt.split hd (sg 32)).map V.str))) l2=some (.lst ((Txt.split hd (sg 32)).map V.str)):=ag
 generalize (upd H1 l2 (.lst ((Txt.split hd (sg 32)).map V.str)))=H2 at s2 h2 ⊢
 have nohd:(∀d,¬cQ 32 hd d)->∀m rs f,¬gv z m rs f:=fun no m rs f' ⟨h',rows',e',pt,_⟩=>by
  rw[er] at e'
  cases e'
  exact no _ pt
 refine⟨l2,_,rfl,h2,p1,p2,fun al p H3 s3 h3=>?_,fun na H3 s3=>?_⟩
 case refine_2=>
  refine⟨_,rfl,rfl,_,rfl,?_⟩
  exact aG (aG (zb (nohd (j8 fun h=>na h.1)) H3 (s1.trans (s2.trans s3))))
 refine⟨_,rfl,rfl,_,rfl,aO ⟨_,rfl,p,_,rfl,.inr (SqT.of h3),rfl,_,rfl,?_⟩⟩
 rw[List.length_map,List.length_map]
 by_cases c2:(Txt.split hd (sg 32)).length=2
 case neg=>
  rw[decide_eq_false fun h=>c2 (by have:=V.int.inj h;lia)]
  exact aG (zb (nohd (j8 fun h=>c2 h.2)) H3 (s1.trans (s2.trans s3)))
 rw[decide_eq_true (show V.int (((Txt.split hd (sg 32)).length:Nat):Int)=V.int 2 from by rw[c2];rfl)]
 refine aO ⟨by show 0≤sizeLine;lia,fun ls hls=>?_⟩
 obtain⟨a,b,eab,pab⟩:=qA al c2
 rw[eab] at h3
 have s4:=ak hls (.lst [])
 have h4:(upd H3 ls (.lst [])) ls=some (.lst []):=ag
 have s03:=s1.trans (s2.trans s3)
 generalize (upd H3 ls (.lst []))=H4 at s4 h4 ⊢
 have hls0:H3 ls=none:=hls
 have s24:=s2.trans (s3.trans s4)
 refine⟨_,rfl,1,rfl,l,_,rfl,SqL.of (s24 _ _ h1),fun lw hlw=>?_⟩
 rw[show cH ((hd::rows).map V.str) (some 1) none=rows.map V.str from by rw[show(1:Int)=((1:Nat):Int) from rfl,nA];rfl]
 have s5:=ak hlw (.lst (rows.map V.str))
 have h5:(upd H4 lw (.lst (rows.map V.str))) lw=some (.lst (rows.map V.str)):=ag
 have nw:lw≠ls:=fun e=>by rw[e,h4] at hlw;cases hlw
 have h5s:=s5 _ _ h4
 have s35:=s4.trans s5
 generalize (upd H4 lw (.lst (rows.map V.str)))=H5 at s5 s35 h5 h5s ⊢
 have norow:∀{j:Nat}{y:Str},rows[j]?=some y->(∀r,¬gu y r)->∀m rs f,¬gv z m rs f:=fun {j y} hy no m rs f' ⟨h',rows',e',_,pr⟩=>by
  rw[er] at e'
  cases e'
  obtain⟨r,_,q⟩:=bR pr hy
  exact no r q
 refine⟨lw,rfl,⟨_,SqL.of h5⟩,dZ (K:=K) (a:=lw) (xs:=rows.map V.str) (fun i σ H6=>∃v4 v5 us rs,σ=[some (.str z),some (.ref l),some (.ref p),some (.ref ls),v4,v5]∧ar H3 H6∧H6 lw=some (.lst (rows.map V.str))∧H6 ls=some (.lst us)∧Paired gu (rows.take i) rs∧Paired (bg K H6) us rs) ⟨none,none,[],[],rfl,s35,h5,h5s,.nil,.nil⟩ ?_ ?_ ?_⟩
 ·rintro i σ H6 _ ⟨v4,v5,us,rs,rfl,s6,h6,_⟩
  exact SqL.of h6
 ·rintro i x σ H6 hx ⟨v4,v5,us,rs,rfl,s6,h6,h6s,pr,pu⟩
  rw[List.getElem?_map] at hx
  obtain⟨y,hy,rfl⟩:=Option.map_eq_some_iff.mp hx
  have ly:=short y (List.mem_cons_of_mem _ (List.mem_of_getElem? hy))
  obtain⟨q1,q2⟩:=parts y 32 ly
  refine⟨_,rfl,rfl,y,sg 32,rfl,e32,rfl,by rw[sizeLine_eq];lia,fun l7 hl7=>?_⟩
  have s7:=ak hl7 (.lst ((Txt.split y (sg 32)).map V.str))
  have h7:(upd H6 l7 (.lst ((Txt.split y (sg 32)).map V.str))) l7=some (.lst ((Txt.split y (sg 32)).map V.str)):=ag
  generalize (upd H6 l7 (.lst ((Txt.split y (sg 32)).map V.str)))=H7 at s7 h7 ⊢
  refine⟨l7,rfl,⟨_,SqL.of h7⟩,eW (K:=K) (a:=l7) (xs:=(Txt.split y (sg 32)).map V.str) (fun j ds H8=>ar H7 H8∧Paired (DI K H8) ds ((Txt.split y (sg 32)).take j)) ⟨ar.refl _,.nil⟩ ?_ (by rw[List.length_map,sizeLine_eq];lia) ?_ ?_⟩
  ·rintro j ds H8 _ ⟨s8,pd⟩
   have:=pd.length
   rw[List.length_take] at this
   exact⟨SqL.of (s8 _ _ h7),by lia⟩
  ·rintro j x ds H8 hx ⟨s8,pd⟩
   rw[List.getElem?_map] at hx
   obtain⟨d,hd',rfl⟩:=Option.map_eq_some_iff.mp hx
   have ld:=q2 d (List.mem_of_getElem? hd')
   obtain⟨r1,r2⟩:=parts d 58 ld
   refine goT (aG ⟨_,rfl,rfl,d,sg 58,rfl,e58,rfl,by rw[sizeLine_eq];lia,fun l9 hl9=>?_⟩)
   have s9:=ak hl9 (.lst ((Txt.split d (sg 58)).map V.str))
   refine⟨l9,_,rfl,ag,r1,r2,fun al p9 H10 s10 h10=>?_,fun na H10 s10=>?_⟩
   ·refine⟨s8.trans (s9.trans s10),?_⟩
    rw[aR hd']
    exact cN (aJ (fun _ _ q=>q.same (s9.trans s10)) pd) (.cons (.inl ⟨al,p9,rfl,h10⟩) .nil)
   ·refine⟨s8.trans (s9.trans s10),?_⟩
    rw[aR hd']
    exact cN (aJ (fun _ _ q=>q.same (s9.trans s10)) pd) (.cons (.inr ⟨na,rfl⟩) .nil)
  ·rintro ds H8 ld ⟨s8,pd⟩ hld
   rw[List.length_map,List.take_length] at pd
   have dl:=pd.length
   have s9:=ak hld (.lst ds)
   have h9:(upd H8 ld (.lst ds)) ld=some (.lst ds):=ag
   have pd9:Paired (DI K (upd H8 ld (.lst ds))) ds (Txt.split y (sg 32)):=aJ (fun _ _ q=>q.same s9) pd
   generalize (upd H8 ld (.lst ds))=H9 at s9 h9 pd9 ⊢
   refine⟨_,rfl,ld,rfl,⟨_,SqL.of h9⟩,eW (K:=K) (a:=ld) (xs:=ds) (fun j bs H10=>H10=H9∧bs=(((Txt.split y (sg 32)).take j).map gD).map V.bl) ⟨rfl,rfl⟩ ?_ (by rw[sizeLine_eq];lia) ?_ ?_⟩
   ·rintro j bs H10 _ ⟨rfl,rfl⟩
    rw[List.length_map,List.length_map,List.length_take]
    exact⟨SqL.of h9,by lia⟩
   ·rintro j x bs H10 hx ⟨rfl,rfl⟩
    obtain⟨d,hd',di⟩:=bR pd9 hx
    rw[aR hd',List.map_append,List.map_append]
    refine goT (aG ?_)
    rcases di with⟨al,p9,rfl,h10⟩|⟨na,rfl⟩
    ·refine⟨_,rfl,rfl,_,rfl,aG ⟨_,rfl,p9,_,rfl,.inr (SqT.of h10),rfl,rfl,?_⟩⟩
     congr 1
     show [V.bl _]=[V.bl (gD d)]
     rw[List.length_map,List.length_map]
     by_cases c:(Txt.split d (sg 58)).length=2
     ·obtain⟨a',b',_,pl⟩:=qA al c
      rw[lC.mpr ⟨_,pl⟩,decide_eq_true (show V.int (((Txt.split d (sg 58)).length:Nat):Int)=V.int 2 from by rw[c];rfl)]
     ·rw[yo fun h=>c h.2,decide_eq_false fun h=>c (by have:=V.int.inj h;lia)]
    ·refine⟨_,rfl,rfl,_,rfl,aO ⟨rfl,?_⟩⟩
     congr 1
     show [V.bl _]=[V.bl (gD d)]
     rw[yo fun h=>na h.1]
   ·rintro bs H10 p10 ⟨rfl,rfl⟩ hp10
    rw[dl,List.take_length]
    have s11:=ak hp10 (.lst (((Txt.split y (sg 32)).map gD).map V.bl))
    have h11:(upd H10 p10 (.lst (((Txt.split y (sg 32)).map gD).map V.bl))) p10=some (.lst (((Txt.split y (sg 32)).map gD).map V.bl)):=ag
    generalize (upd H10 p10 (.lst (((Txt.split y (sg 32)).map gD).map V.bl)))=H11 at s11 h11 ⊢
    have s611:=s7.trans (s8.trans (s9.trans s11))
    refine⟨p10,_,rfl,SqL.of h11,_,rfl,?_⟩
    cases hall:((Txt.split y (sg 32)).map gD).all id with
    | false=>
     refine aG (zb (norow hy fun r pr=>?_) H11 (s03.trans (s6.trans s611)))
     have:((Txt.split y (sg 32)).map gD).all id=true:=by
      rw[List.all_map]
      refine List.all_eq_true.mpr fun d hd'=>?_
      obtain⟨j,hj⟩:=List.getElem?_of_mem hd'
      obtain⟨e,_,q⟩:=bR pr hj
      exact lC.mpr ⟨e,q⟩
     rw[this] at hall
     cases hall
    | true=>
     refine aO ?_
     have good:∀d∈Txt.split y (sg 32),∃e,cQ 58 d e:=fun d hd'=>by
      rw[List.all_map] at hall
      exact lC.mp (List.all_eq_true.mp hall d hd')
     obtain⟨r,pr2,pda⟩:=qB (K:=K) (H:=H11) (aJ (fun _ _ q=>q.same s11) pd9) good
     refine⟨_,rfl,.inl ⟨rfl,_,SqL.of (s611 _ _ h6s)⟩,_,rfl,ld,ds,rfl,.inl ⟨SqL.of (s11 _ _ h9),fun tr htr=>?_⟩⟩
     have s12:=ak htr (.tup ds)
     have h12s:=s12 _ _ (s611 _ _ h6s)
     have ra:bg K (upd H11 tr (.tup ds)) (.ref tr) r:=⟨tr,ds,rfl,SqT.of ag,aJ (fun _ _ q=>q.same s12) pda⟩
     have pu12:Paired (bg K (upd H11 tr (.tup ds))) us rs:=aJ (fun _ _ q=>q.same (s611.trans s12)) pu
     have s612:=s611.trans s12
     generalize (upd H11 tr (.tup ds))=H12 at s12 h12s ra pu12 s612 ⊢
     have ul:=pu.length
     have rl:=pr.length
     rw[List.length_take] at rl
     refine⟨ls,us,_,rfl,rfl,h12s,by rw[sizeLine_eq];lia,_,_,_,rs++[r],rfl,fun c u q=>?_,?_,ag,?_,cN (aJ (fun _ _ q=>nE h12s q) pu12) (.cons (nE h12s ra) .nil)⟩
     ·rw[ap (au q hls0)]
      exact s612 _ _ (s6 _ _ q)
     ·rw[ap nw]
      exact s612 _ _ h6
     ·rw[aR hy]
      exact cN pr (.cons pr2 .nil)
 ·rintro σ H6 ⟨v4,v5,us,rs,rfl,s6,h6,h6s,pr,pu⟩
  rw[List.length_map,List.take_length] at pr
  refine⟨_,rfl,p,_,0,_,rfl,rfl,SqT.of (s6 _ _ h3),eQ,_,rfl,_,rfl,p,_,1,_,rfl,rfl,SqT.of (s6 _ _ h3),br (j:=1) rfl,by show 3≤sizeLine;decide,fun bk hbk=>?_⟩
  have s7:=ak hbk (.tup [.int (bW a),.ref ls,.int (bW b)])
  exact zg (bW a) rs (bW b) ⟨hd,rows,er,pab,pr⟩ (.ref bk) _ (s03.trans (s6.trans s7)) ⟨bk,ls,us,rfl,SqT.of ag,SqL.of (s7 _ _ h6s),aJ (fun _ _ q=>q.same s7) pu⟩
end
end Ord
namespace Ord
open PySem L2 Mx
abbrev ue:Stmt:=top 51
section
variable {P:Program}{w:World}{K:W.Frag}{mg:Str->Option Value}{base:Heap}{CO CT CB:Addr}
def qC (K:W.Frag):Sp:=fun vs H Q _=>∃(x:V) (m:Int) (rs:List Bk.Room) (f:Int),vs=[x]∧BookA K H x m rs f∧rs.length<70∧(BOk m rs f->∀H',ar H H'->Q (.bl true) H')∧(¬BOk m rs f->∀H',ar H H'->Q (.bl false) H')
theorem lD:FnScope ["_law_tried_here","_law_kept","e"] ["_law_tried_here"] (am ue):={}
theorem zQ {f:Addr}{fd:FuncData}(F:Fun K "_law_is_book" "_law_is_book" ue f fd) (TB:TrB K mg CB) (WB:Df P w K mg base (CX1 P w) 11 "look_book" ["book"] (jG K CB)):FnOk P w K mg base (CX1 P w) 12 f fd ["_law_tried_here"] (qC K):=by
 refine F.okX lD (fun vs H Q E h=>?_) (fun X cdv A outer s H vs Q E hX hp hra hr h=>?_)
 ·obtain⟨x,m,rs,f',rfl,_⟩:=h
  rfl
 obtain⟨x,m,rs,f',rfl,ba,few,zg,zb⟩:=h
 subst hX
 refine⟨_,af (ay (i:=1) lD.nd rfl (Or.inl rfl) cz)
  (af (oP rfl rfl rfl rfl rfl TB.kn TB.nt TB.xc TB.cl lD.nd (ie:=2) rfl rfl
   (fun pn' xe' E' hp'=>ai (bq (aF WB hr rfl hp' (ac (pv 0) ae))))
   (fun A' pn' xe'=>ai (ay (i:=1) lD.nd rfl (Or.inl rfl) (pv 2))))
  (ai (aL (dA iQ (pv 1) cz (aM _))))),?_⟩
 refine⟨_,rfl,x,m,rs,f',rfl,ba,few,fun bok H1 s1=>⟨_,rfl,rfl,zg bok H1 s1⟩,fun nb H1 s1=>⟨CB,rfl,TB.own,fun e he=>⟨_,rfl,_,rfl,rfl,zb nb _ (s1.trans (ak he _))⟩⟩⟩
end
end Ord
namespace Ord
open PySem L2 Mx
theorem cQ.t {c:Nat}{z:Str}{d:Int×Int}(h:cQ c z d):cY c z d:=by
 obtain⟨a,b,e,na,nb,q⟩:=h
 exact⟨a,b,e,na.1,nb.1,q⟩
theorem gu.t {z:Str}{r:Bk.Room}(h:gu z r):fK z r:=aJ (fun _ _ q=>cQ.t q) h
theorem gv.t {z:Str}{m f:Int}{rs:List Bk.Room}(h:gv z m rs f):dX z m rs f:=by
 obtain⟨hd,rows,e,p,q⟩:=h
 exact⟨hd,rows,e,p.t,aJ (fun _ _ q=>gu.t q) q⟩
theorem ke {z:Str}(n:NumT z) (h:bW z<100000):eS z:=by
 refine⟨n,?_⟩
 have zl:z.cps.toList.length=z.length:=by rw[Array.length_toList];rfl
 by_cases c:z.cps.toList.head?=some 48
 ·have:=n.cn.hd c
  lia
 ·have h1:=(Tx.canon_back _ _ rfl n.cn).2 c
  have h2:NumText.digitsVal z.cps.toList<10 ^ 5:=by
   have:((NumText.digitsVal z.cps.toList:Nat):Int)<100000:=h
   have e:(10:Nat) ^ 5=100000:=by decide
   lia
  have h3:=Nat.lt_of_le_of_lt h1 h2
  have:=(Nat.pow_lt_pow_iff_right (show 1<10 by decide)).mp h3
  lia
theorem cY.l {c:Nat}{z:Str}{d:Int×Int}(h:cY c z d) (h1:d.1<100000) (h2:d.2<100000):cQ c z d:=by
 obtain⟨a,b,e,na,nb,rfl⟩:=h
 exact⟨a,b,e,ke na h1,ke nb h2,rfl⟩
theorem uf {α β:Type}{F G:α->β->Prop}:∀{l:List α}{m:List β},Paired F l m->(∀a,∀b∈m,F a b->G a b)->Paired G l m
 | _,_,.nil,_=>.nil
 | _,_,.cons h t,f=>.cons (f _ _ (List.mem_cons_self ..) h) (uf t fun a b hb=>f a b (List.mem_cons_of_mem _ hb))
theorem nF {m f:Int}{rs:List Bk.Room}(few:rs.length<70) (B:BOk m rs f):m<100000∧f<100000∧∀r∈rs,∀d∈r,d.1<100000∧d.2<100000:=by
 have m8:=B.m
 refine⟨by lia,?_,fun r hr d hd=>?_⟩
 ·rcases B.fst with h|⟨_,h,_⟩
  ·lia
  ·rw[Bk.cF] at h
   lia
 ·obtain⟨i,hi⟩:=List.getElem?_of_mem hr
  have il:i<rs.length:=(List.getElem?_eq_some_iff.mp hi).1
  have:=(B.fo i r hi).1.2.all d hd
  lia
theorem dX.l {z:Str}{m f:Int}{rs:List Bk.Room}(few:rs.length<70) (h:dX z m rs f) (B:BOk m rs f):gv z m rs f:=by
 obtain⟨h1,h2,h3⟩:=nF few B
 obtain⟨hd,rows,e,p,q⟩:=h
 refine⟨hd,rows,e,cY.l p h1 h2,uf q fun y r hr rt=>?_⟩
 exact uf rt fun w d hd' pt=>cY.l pt (h3 r hr d hd').1 (h3 r hr d hd').2
theorem sF {c:Nat}:∀{x y r s:List Nat},c∉x->c∉y->x++c::r=y++c::s->x=y∧r=s
 | [],[],_,_,_,_,h=>⟨rfl,(List.cons.inj h).2⟩
 | [],b::y,_,_,_,hy,h=>absurd (List.mem_cons.mpr (.inl (List.cons.inj h).1)) hy
 | a::x,[],_,_,hx,_,h=>absurd (List.mem_cons.mpr (.inl (List.cons.inj h).1.symm)) hx
 | a::x,b::y,r,s,hx,hy,h=>by
  obtain⟨e1,e2⟩:=List.cons.inj h
  obtain⟨q1,q2⟩:=sF (fun m=>hx (List.mem_cons_of_mem _ m)) (fun m=>hy (List.mem_cons_of_mem _ m)) e2
  exact⟨by rw[e1,q1],q2⟩
theorem fg (c:Nat) (x y:Str) (r:List Str):(Str.join (sg c) (x::y::r)).cps.toList=x.cps.toList++c::(Str.join (sg c) (y::r)).cps.toList:=by
 show((x++sg c)++Str.join (sg c) (y::r)).cps.toList=_
 rw[Str.cps_append,Str.cps_append,Array.toList_append,Array.toList_append]
 show x.cps.toList++[c]++_=_
 rw[List.append_assoc]
 rfl
theorem qD (c:Nat):∀{xs ys:List Str},xs≠[]->ys≠[]->(∀x∈xs,c∉x.cps.toList)->(∀y∈ys,c∉y.cps.toList)->Str.join (sg c) xs=Str.join (sg c) ys->xs=ys
 | [],_,h,_,_,_,_=>absurd rfl h
 | _,[],_,h,_,_,_=>absurd rfl h
 | [x],[y],_,_,_,_,e=>by
  have:x=y:=e
  rw[this]
 | [x],y::y'::ys,_,_,hx,_,e=>by
  have e':=congrArg (fun z:Str=>z.cps.toList) e
  have:x.cps.toList=y.cps.toList++c::(Str.join (sg c) (y'::ys)).cps.toList:=e'.trans (fg c y y' ys)
  exact absurd (by rw[this];exact List.mem_append_right _ (List.mem_cons_self ..)) (hx x (List.mem_cons_self ..))
 | x::x'::xs,[y],_,_,_,hy,e=>by
  have e':=congrArg (fun z:Str=>z.cps.toList) e
  have:y.cps.toList=x.cps.toList++c::(Str.join (sg c) (x'::xs)).cps.toList:=e'.symm.trans (fg c x x' xs)
  exact absurd (by rw[this];exact List.mem_append_right _ (List.mem_cons_self ..)) (hy y (List.mem_cons_self ..))
 | x::x'::xs,y::y'::ys,_,_,hx,hy,e=>by
  have e':=congrArg (fun z:Str=>z.cps.toList) e
  have e2:x.cps.toList++c::(Str.join (sg c) (x'::xs)).cps.toList=y.cps.toList++c::(Str.join (sg c) (y'::ys)).cps.toList:=((fg c x x' xs).symm.trans e').trans (fg c y y' ys)
  obtain⟨q1,q2⟩:=sF (hx x (List.mem_cons_self ..)) (hy y (List.mem_cons_self ..)) e2
  rw[jJ q1,qD c (List.cons_ne_nil _ _) (List.cons_ne_nil _ _) (fun z hz=>hx z (List.mem_cons_of_mem _ hz)) (fun z hz=>hy z (List.mem_cons_of_mem _ hz)) (jJ q2)]
theorem iB {c:Nat}{xs:List Str}(ne:xs≠[]) (h:∀x∈xs,c∉x.cps.toList):Txt.split (Txt.join (sg c) xs) (sg c)=xs:=by
 have e:Txt.join (sg c) xs=Str.join (sg c) xs:=StrLaws.glued_eq_join (sg c) xs
 rw[e]
 refine qD c ?_ ne (StrLaws.split_free _ c) h (StrLaws.join_split _ (sg c))
 have:=PyProof.Rows.split_pos (Str.join (sg c) xs) (sg c)
 intro z
 rw[z] at this
 exact absurd this (by decide)
end Ord
namespace Ord
open PySem L2 Mx
theorem nG {i:Int}(h:Sm i):Tx.Canon (txI i).cps.toList∧bW (txI i)=i:=by
 obtain⟨h0,h1⟩:=h
 obtain⟨m,rfl⟩:=Int.eq_ofNat_of_zero_le h0
 have e:=W.KIN.signs_num m
 have v:=W.KIN.val_back m
 have e':(txI ((m:Nat):Int)).cps.toList=(Nat.toDigits 10 m).map Char.toNat:=e
 refine⟨?_,?_⟩
 ·rw[e']
  refine⟨fun c hc=>?_,?_,fun hd=>?_⟩
  ·obtain⟨ch,hch,q⟩:=List.mem_map.mp hc
   rw[←q]
   exact PyProof.Rows.digit_range (Nat.isDigit_of_mem_toDigits (by decide) (by decide) hch)
  ·by_cases z:m=0
   ·rw[z];decide
   ·obtain⟨c,r,q,_⟩:=Tx.head_digits m z
    rw[q]
    exact List.cons_ne_nil _ _
  ·by_cases z:m=0
   ·rw[z];rfl
   ·obtain⟨c,r,q,nz⟩:=Tx.head_digits m z
    rw[q] at hd
    have:c.toNat=48:=Option.some.inj hd
    have q2:=Char.ofNat_toNat c
    rw[this] at q2
    exact absurd q2.symm nz
 ·show((NumText.digitsVal (txI ((m:Nat):Int)).cps.toList:Nat):Int)=_
  rw[e',v]
theorem sG {i:Int}(h:Sm i) (h5:i<100000):eS (txI i)∧bW (txI i)=i:=by
 obtain⟨c,v⟩:=nG h
 have l:=h.len
 have zl:(txI i).cps.toList.length=(txI i).length:=by rw[Array.length_toList];rfl
 have lp:1≤(txI i).length:=by
  have:=List.length_pos_iff.mpr c.ne
  lia
 exact⟨ke ⟨lp,by lia,c⟩ (by rw[v];exact h5),v⟩
theorem iC {i:Int}{c:Nat}(h:Sm i) (hc:c<48∨57<c):c∉(txI i).cps.toList:=fun m=>by
 have:=(nG h).1.dg c m
 lia
theorem nH {c d:Nat}(ne:d≠c):∀{xs:List Str},(∀x∈xs,d∉x.cps.toList)->d∉(Txt.join (sg c) xs).cps.toList:=fun {xs} h=>by
 have e:Txt.join (sg c) xs=Str.join (sg c) xs:=StrLaws.glued_eq_join (sg c) xs
 rw[e]
 clear e
 induction xs with
 | nil=>exact fun m=>by cases (show d∈([]:List Nat) from m)
 | cons x r ih=>
  cases r with
  | nil=>exact h x (List.mem_cons_self ..)
  | cons y r=>
   rw[fg]
   intro m
   rcases List.mem_append.mp m with m|m
   ·exact h x (List.mem_cons_self ..) m
   ·rcases List.mem_cons.mp m with m|m
    ·exact ne m
    ·exact ih (fun z hz=>h z (List.mem_cons_of_mem _ hz)) m
theorem jV (c:Nat) (i j:Int):ax c i j=Txt.join (sg c) [txI i,txI j]:=(StrLaws.glued_eq_join (sg c) [txI i,txI j]).symm
theorem qE {c:Nat}{i j:Int}(hc:c<48∨57<c) (hi:Sm i) (hj:Sm j) (i5:i<100000) (j5:j<100000):cQ c (ax c i j) (i,j):=by
 obtain⟨n1,v1⟩:=sG hi i5
 obtain⟨n2,v2⟩:=sG hj j5
 refine⟨txI i,txI j,?_,n1,n2,by rw[v1,v2]⟩
 rw[jV]
 refine iB (List.cons_ne_nil _ _) fun x hx=>?_
 rcases List.mem_cons.mp hx with rfl|hx
 ·exact iC hi hc
 ·rw[List.mem_singleton.mp hx];exact iC hj hc
theorem gG {c d:Nat}{i j:Int}(ne:d≠c) (hd:d<48∨57<d) (hi:Sm i) (hj:Sm j):d∉(ax c i j).cps.toList:=by
 rw[jV]
 refine nH ne fun x hx=>?_
 rcases List.mem_cons.mp hx with rfl|hx
 ·exact iC hi hd
 ·rw[List.mem_singleton.mp hx];exact iC hj hd
structure Sm5 (m:Int) (rs:List Bk.Room) (f:Int):Prop where
 s:SmB m rs f
 m5:m<100000
 f5:f<100000
 r5:∀r∈rs,r≠[]∧∀d∈r,d.1<100000∧d.2<100000
theorem qF {α β:Type}{F:α->β->Prop}{g:β->α}:∀{m:List β},(∀b∈m,F (g b) b)->Paired F (m.map g) m
 | [],_=>.nil
 | b::m,h=>.cons (h b (List.mem_cons_self ..)) (qF fun c hc=>h c (List.mem_cons_of_mem _ hc))
theorem qG {m f:Int}{rs:List Bk.Room}(S:Sm5 m rs f):gv (eR m rs f) m rs f:=by
 have room:∀r∈rs,gu (aW r) r:=fun r hr=>by
  obtain⟨ne,h5⟩:=S.r5 r hr
  obtain⟨_,sm⟩:=S.s.rs r hr
  unfold gu aW
  rw[iB (by intro e;exact ne (List.map_eq_nil_iff.mp e)) fun x hx=>by
   obtain⟨d,hd,rfl⟩:=List.mem_map.mp hx
   exact gG (by decide) (by decide) (sm d hd).1 (sm d hd).2]
  exact qF fun d hd=>qE (by decide) (sm d hd).1 (sm d hd).2 (h5 d hd).1 (h5 d hd).2
 refine⟨ax 32 m f,rs.map aW,?_,qE (by decide) S.s.m S.s.f S.m5 S.f5,qF room⟩
 unfold eR
 refine iB (List.cons_ne_nil _ _) fun x hx=>?_
 rcases List.mem_cons.mp hx with rfl|hx
 ·exact gG (by decide) (by decide) S.s.m S.s.f
 ·obtain⟨r,hr,rfl⟩:=List.mem_map.mp hx
  obtain⟨_,sm⟩:=S.s.rs r hr
  refine nH (by decide) fun x hx=>?_
  obtain⟨d,hd,rfl⟩:=List.mem_map.mp hx
  exact gG (by decide) (by decide) (sm d hd).1 (sm d hd).2
end Ord
namespace L2
open PySem
theorem fY {K:W.Frag}{H:Hp}{p:Addr}{o:List Int}(h:SqT K H p (o.map V.int)):aK.rep K H (.ref p) o:=by
 refine⟨p,_,rfl,h,?_⟩
 clear h
 induction o with
 | nil=>exact .nil
 | cons x o ih=>exact .cons rfl ih
theorem eu {K:W.Frag}{H:Hp}{x:V}{o:List Int}(h:aK.rep K H x o):∃p,x=.ref p∧SqT K H p (o.map V.int):=by
 obtain⟨p,xs,e,q,r⟩:=h
 have:xs=o.map V.int:=by
  clear q e
  induction r with
  | nil=>rfl
  | cons h _ ih=>rw[ih,List.map_cons];cases h;rfl
 exact⟨p,e,this▸q⟩
end L2
namespace Ord
open PySem L2 Mx
abbrev yq (many:Nat):Int->Prop:=fun x=>0≤x∧x<(many:Int)
theorem ug {many:Nat}(m1:1≤many) (m8:many≤8):WholeB many [] 0 where
 m1:=m1
 m8:=m8
 rooms:=⟨(fun i r h=>by simp at h),(fun i r h=>by simp at h),(fun r h=>nomatch h),(by decide)⟩
 few:=by decide
 nd:=List.nodup_nil
 fst:=.inl rfl
 fits:=.inl rfl
 walk:=by rw[show((0:Nat):Int)=0 from rfl,Bk.jB (by decide)];rfl
theorem vR {many:Nat}{os:Bk.aq}(m1:1≤many) (m8:many≤8) (h:Bk.fX many (yq many) os) (ne:os≠[]) (few:(Bk.lay many os []).2.length<70):WholeB many (Bk.lay many os []).2 (Bk.lay many os []).1:=by
 have wf0:Bk.WF []:=fun i r h=>by simp at h
 have mk0:Bk.MOk []:=fun i r h=>by simp at h
 obtain⟨wf,pre,tells⟩:=Bk.cI many os [] h.plain ne wf0
 obtain⟨mk,hs⟩:=Bk.pN many (yq many) os [] h ne wf0 mk0
 have all:∀o∈Bk.sem (Bk.lay many os []).2 (Bk.lay many os []).1,o.length=many:=fun o ho=>(h o ((tells.mem o).mp ho)).1
 have fit:=Bk.lV wf many _ tells.lo tells.hi all
 refine⟨m1,m8,⟨wf,mk,Bk.pX many os [] (fun o ho x hx=>(((h o ho).2.2.2 x).mp hx).2) (fun r h=>by cases h),by lia⟩,few,Bk.mW many os [] List.nodup_nil,.inr ⟨?_,tells.hi,Bk.xB hs⟩,fit.le m8,?_⟩
 ·have lo:=tells.lo
  have n1:(Bk.lay many os []).1≠1:=fun e=>by
   have:=all [] (by rw[e,Bk.gU];exact List.mem_cons_self)
   simp at this
   lia
  lia
 ·have:=Bk.pL many os [] (Bk.lay many os []).2 h.plain ne wf0 List.prefix_rfl 8 m8
  exact this
end Ord
namespace L2
open PySem
def iD:HO->Prop
 | .tup _=>False
 | .frz _ _=>False
 | _=>True
section
variable {K:W.Frag}{H:Hp}{a d:Addr}{xs:List V}{o u:HO}{x:V}
theorem SqT.soft (hd:H d=some o) (so:iD o) (h:SqT K H a xs):SqT K (upd H d u) a xs:=by
 rcases h with(h|⟨ob,h⟩)|h
 ·refine .inl (.inl ?_)
  rw[ap (by rintro rfl;rw[hd] at h;cases h;exact so)]
  exact h
 ·refine .inl (.inr ⟨ob,?_⟩)
  rw[ap (by rintro rfl;rw[hd] at h;cases h;exact so)]
  exact h
 ·exact .inr h
theorem dy (hd:H d=some o) (so:iD o) {ks:List Int}(h:aK.rep K H x ks):aK.rep K (upd H d u) x ks:=by
 obtain⟨p,xs,e,q,r⟩:=h
 exact⟨p,xs,e,q.soft hd so,aJ (fun _ _ z=>z) r⟩
theorem iE (hd:H d=some o) (so:iD o) {ks:List (List Int)}(h:cR.rep K H x ks):cR.rep K (upd H d u) x ks:=by
 obtain⟨p,xs,e,q,r⟩:=h
 exact⟨p,xs,e,q.soft hd so,aJ (fun _ _ z=>dy hd so z) r⟩
end
theorem sI {r:Bk.Room}:∀{L:NL3}{rs:List Bk.Room}{k:Int},L.length=rs.length->(∀(i:Nat) (e:List (List Int)×Addr×Int),L[i]?=some e->∃r,rs[i]?=some r∧e.1=enc r∧e.2.2=(i:Int)+k)->
  dL L (enc r)=if r∈rs then some ((rs.idxOf r:Nat)+k) else none
 | [],[],_,_,_=>rfl
 | [],_::_,_,h,_=>by simp at h
 | _::_,[],_,h,_=>by simp at h
 | e::L,r0::rs,k,h,all=>by
  obtain⟨r1,h1,h2,h3⟩:=all 0 e rfl
  simp at h1
  subst h1
  have ih:=sI (r:=r) (L:=L) (rs:=rs) (k:=k+1) (by simpa using h) fun i e' he=>by
   obtain⟨r',g1,g2,g3⟩:=all (i+1) e' (by simpa using he)
   exact⟨r',by simpa using g1,g2,by rw[g3];lia⟩
  by_cases c:r0=r
  ·subst c
   rw[if_pos List.mem_cons_self,List.idxOf_cons_self]
   unfold dL
   rw[List.find?_cons_of_pos (by simpa using h2)]
   show some e.2.2=_
   rw[h3]
  ·have c':¬e.1=enc r:=fun z=>c (ss (h2.symm.trans z))
   have e1:dL (e::L) (enc r)=dL L (enc r):=by
    unfold dL
    rw[List.find?_cons_of_neg (by simpa using c')]
   rw[e1,ih]
   by_cases m:r∈rs
   ·rw[if_pos m,if_pos (List.mem_cons_of_mem _ m),List.idxOf_cons,show(r0==r)=false from by simpa using c]
    simp
    lia
   ·rw[if_neg m,if_neg (fun z=>by rcases List.mem_cons.mp z with z|z;exact c z.symm;exact m z)]
end L2
namespace Ord
open PySem L2 Mx
abbrev vS:Stmt:=top 19
def sJ (s:Stmt):List Stmt:=match s with
 | .ClassDef _ _ _ b _ _ _ _ _ _ _=>b
 | _=>[]
abbrev uh:Stmt:=(sJ vS).getD 0 (.Pass ⟨0,0,0,0⟩)
abbrev oq:Stmt:=(sJ vS).getD 1 (.Pass ⟨0,0,0,0⟩)
structure ShC (K:W.Frag) (C:Addr):Prop where
 cls:Cls K C
 rooms:fw K C "rooms"
 numbers:fw K C "numbers"
def kh (L:NL3) (rs:List Bk.Room):Prop:=L.length=rs.length∧∀(i:Nat) (e:List (List Int)×Addr×Int),L[i]?=some e->∃r,rs[i]?=some r∧e.1=enc r∧e.2.2=(i:Int)+2
structure ShA (K:W.Frag) (C:Addr) (H:Hp) (x lr dn:Addr) (rs:List Bk.Room):Prop where
 ex:∃dx xs L,H x=some (.ins C dx [("rooms",.ref lr),("numbers",.ref dn)])∧H lr=some (.lst xs)∧Paired (bg K H) xs rs∧H dn=some (ef dn L)∧ir K H L∧kh L rs
section
variable {P:Program}{w:World}{K:W.Frag}{mg:Str->Option Value}{base:Heap}{CO C:Addr}
def vT (K:W.Frag) (C:Addr):Sp:=fun vs H Q _=>∃(x dx:Addr),vs=[.ref x]∧H x=some (.ins C dx [])∧∀(lr dn:Addr) (H':Hp),H lr=none->H dn=none->(∀b o,b≠x->H b=some o->H' b=some o)->ShA K C H' x lr dn []->Q .non H'
theorem A6:FnScope ["self"] ["self"] (am uh):={}
theorem zR {f:Addr}{fd:FuncData}(F:Fun K "__init__" "Shelf.__init__" uh f fd) (c:ShC K C):FnOk P w K mg base CX0 1 f fd ["self"] (vT K C):=by
 refine F.ok A6 (fun vs H Q E h=>?_) (fun cdv A outer s H vs Q E hr h=>?_)
 ·obtain⟨x,dx,rfl,_⟩:=h
  rfl
 obtain⟨x,dx,rfl,hx,z⟩:=h
 refine⟨_,af (uM (pv 0) (bH ae) rfl) (ai (uM (pv 0) wZ rfl)),?_⟩
 refine⟨by show 0≤sizeLine;decide,fun lr hlr=>?_⟩
 have n1:x≠lr:=au hx hlr
 refine⟨_,rfl,x,C,dx,[],rfl,by rw[ap n1];exact hx,c.cls,c.rooms,by decide,?_⟩
 intro dn hdn
 have n2:x≠dn:=au ag hdn
 have n3:lr≠dn:=fun e=>by
  subst e
  rw[ap (Ne.symm n1),ag] at hdn
  cases hdn
 have hdn':H dn=none:=by
  rw[ap (Ne.symm n2),ap (Ne.symm n3)] at hdn
  exact hdn
 refine⟨_,rfl,x,C,dx,[("rooms",.ref lr)],rfl,by rw[ap n2,ag];rfl,c.cls,c.numbers,by show 1<1000;decide,?_⟩
 refine z lr dn _ hlr hdn' (fun b o nb e=>?_) ⟨dx,[],[],?_,?_,.nil,?_,(fun e h=>nomatch h),rfl,(fun i e h=>nomatch h)⟩
 ·rw[ap nb,ap (au e hdn'),ap nb,ap (au e hlr)]
  exact e
 ·rw[ag];rfl
 ·rw[ap (Ne.symm n1),ap n3,ap (Ne.symm n1),ag]
 ·rw[ap (Ne.symm n2),ag]
theorem bg.soft {H:Hp}{d:Addr}{o u:HO}{x:V}{r:Bk.Room}(hd:H d=some o) (so:iD o) (h:bg K H x r):bg K (upd H d u) x r:=by
 obtain⟨a,xs,e,q,z⟩:=h
 exact⟨a,xs,e,q.soft hd so,aJ (fun _ _ ⟨p,e,q⟩=>⟨p,e,q.soft hd so⟩) z⟩
theorem kh.val {L:NL3}{rs:List Bk.Room}(h:kh L rs) (r:Bk.Room):dL L (enc r)=if r∈rs then some (((rs.idxOf r:Nat):Int)+2) else none:=sI h.1 h.2
theorem kh.snoc {L:NL3}{rs:List Bk.Room}(h:kh L rs) (r:Bk.Room) (b:Addr):kh (L++[(enc r,b,(rs.length:Int)+2)]) (rs++[r]):=by
 refine⟨by rw[List.length_append,List.length_append,h.1];rfl,fun i e he=>?_⟩
 by_cases hi:i<L.length
 ·rw[List.getElem?_append_left hi] at he
  obtain⟨r',g1,g2,g3⟩:=h.2 i e he
  exact⟨r',by rw[List.getElem?_append_left (by rw[←h.1];exact hi)];exact g1,g2,g3⟩
 ·have hl:=(List.getElem?_eq_some_iff.mp he).1
  rw[List.length_append] at hl
  have hi':i=L.length:=by simp at hl;lia
  subst hi'
  rw[List.getElem?_append_right (Nat.le_refl _)] at he
  simp at he
  subst he
  exact⟨r,by rw[h.1,List.getElem?_append_right (Nat.le_refl _)];simp,rfl,by rw[h.1]⟩
def qH (K:W.Frag) (C:Addr):Sp:=fun vs H Q _=>∃(x lr dn:Addr) (rs:List Bk.Room) (y:V) (r:Bk.Room),vs=[.ref x,y]∧ShA K C H x lr dn rs∧bg K H y r∧rs.length<1000∧
 ∀H',(∀b o,b≠lr->b≠dn->H b=some o->H' b=some o)->ShA K C H' x lr dn (Bk.keep rs r).2->Q (.int ((Bk.keep rs r).1:Nat)) H'
theorem A7:FnScope ["self","room"] ["self","room"] (am oq):={}
theorem zS {f:Addr}{fd:FuncData}(F:Fun K "keep" "Shelf.keep" oq f fd) (T:TxB K mg CO) (c:ShC K C):FnOk P w K mg base CX0 1 f fd ["self","room"] (qH K C):=by
 refine F.ok A7 (fun vs H Q E h=>?_) (fun cdv A outer s H vs Q E hr h=>?_)
 ·obtain⟨x,lr,dn,rs,y,r,rfl,_⟩:=h
  rfl
 obtain⟨x,lr,dn,rs,y,r,rfl,S,ra,few,z⟩:=h
 obtain⟨dx,xs,L,hx,hlr,pr,hdn,hk,nl⟩:=S.ex
 obtain⟨b,ys,rfl,qb,pb⟩:=id ra
 obtain⟨t2,m2⟩:=T.low
 have hu:(bw CX0 P w K mg base ["self","room"] "Shelf.keep" (am oq) f cdv A outer s H E).nox.A.units+2<cLine:=by have:=hr.un;show(A.deeper _).units+2<cLine;lia
 refine⟨_,af (aQ (aI (u9 hu) (pv 1) (gL (pv 0) rfl) rfl)
   (af (zn hu (gL (pv 0) rfl) (pv 1) (aA ck (aw aN rfl T.t.len bM (ac (gL (pv 0) rfl) ae)) (bj (v:=.int 2) rfl m2 ⟨t2,rfl⟩)) rfl)
   (ai (bq (bP PySem.F.plainAttrs_list PySem.F.slot_list_append PySem.F.type_list_append de (gL (pv 0) rfl) (ac (pv 1) ae))))) aB)
  (ai (aL (zk hu (gL (pv 0) rfl) (pv 1) (fun _ _=>rfl)))),?_⟩
 have hlen:=pr.length
 have n1:x≠lr:=nU hx hlr (fun h=>nomatch h)
 have n2:x≠dn:=nU hx hdn (fun h=>nomatch h)
 have n3:lr≠dn:=nU hlr hdn (fun h=>nomatch h)
 refine⟨_,rfl,_,rfl,x,C,dx,_,.ref dn,rfl,hx,c.cls,c.numbers,rfl,dn,L,b,enc r,rfl,rfl,hdn,hk,ra.rep,_,rfl,?_⟩
 rw[nl.val r]
 by_cases m:r∈rs
 ·rw[if_pos m]
  refine aO ?_
  have ek:Bk.keep rs r=(rs.idxOf r+2,rs):=by unfold Bk.keep;rw[if_pos m]
  rw[ek] at z
  refine⟨_,rfl,x,C,dx,_,.ref dn,rfl,hx,c.cls,c.numbers,rfl,_,rfl,dn,L,b,enc r,_,rfl,rfl,hdn,hk,ra.rep,(nl.val r).trans (if_pos m),?_⟩
  exact z H (fun b o _ _ e=>e) S
 ·rw[if_neg m]
  refine aG ?_
  have ek:Bk.keep rs r=(rs.length+2,rs++[r]):=by unfold Bk.keep;rw[if_neg m]
  rw[ek] at z
  refine⟨_,rfl,x,C,dx,_,.ref lr,rfl,hx,c.cls,c.rooms,rfl,lr,xs,rfl,.inl (.inl (.inl hlr)),_,2,rfl,rfl,_,rfl,x,C,dx,_,.ref dn,rfl,hx,c.cls,c.numbers,rfl,_,rfl,dn,L,b,enc r,_,rfl,rfl,rfl,hdn,hk,ra.rep,(nl.val r).trans (if_neg m),by rw[nl.1,sizeLine_eq];lia,?_⟩
  have sd:iD (ef dn L):=trivial
  have hlr1:∀u,upd H dn u lr=some (.lst xs):=fun u=>by rw[ap n3];exact hlr
  have hx1:∀u,upd H dn u x=some (.ins C dx [("rooms",.ref lr),("numbers",.ref dn)]):=fun u=>by rw[ap n2];exact hx
  have sl:iD (.lst xs):=trivial
  refine⟨_,rfl,x,C,dx,_,.ref lr,rfl,hx1 _,c.cls,c.rooms,rfl,.inl ⟨rfl,_,.inl (.inl (hlr1 _))⟩,_,rfl,lr,xs,.ref b,rfl,rfl,hlr1 _,by rw[sizeLine_eq];lia,?_⟩
  have eL:(xs.length:Int)+2=(rs.length:Int)+2:=by lia
  have nl':kh (L++[(enc r,b,(xs.length:Int)+2)]) (rs++[r]):=by rw[eL];exact nl.snoc r b
  have ra':∀{y:V}{r':Bk.Room}{u v:HO},bg K H y r'->bg K (upd (upd H dn u) lr v) y r':=fun h=>(h.soft hdn sd).soft (hlr1 _) sl
  have kk:∀{u v:HO},ir K (upd (upd H dn u) lr v) (L++[(enc r,b,(xs.length:Int)+2)]):=fun {u v} e he=>by
   rcases List.mem_append.mp he with h|h
   ·exact iE (hlr1 _) sl (iE hdn sd (hk e h))
   ·rw[List.mem_singleton.mp h]
    exact(ra' ra).rep
  have hx2:∀u v,upd (upd H dn u) lr v x=some (.ins C dx [("rooms",.ref lr),("numbers",.ref dn)]):=fun u v=>by rw[ap n1];exact hx1 u
  have hdn2:∀u v,upd (upd H dn u) lr v dn=some u:=fun u v=>by rw[ap (Ne.symm n3),ag]
  refine⟨_,rfl,x,C,dx,_,.ref dn,rfl,hx2 _ _,c.cls,c.numbers,rfl,_,rfl,dn,_,b,enc r,(xs.length:Int)+2,rfl,rfl,hdn2 _ _,kk,(ra' ra).rep,?_,?_⟩
  ·have h1:=nl'.val r
   rw[if_pos (List.mem_append_right _ List.mem_cons_self)] at h1
   rw[h1,List.idxOf_append,if_neg m]
   simp
   lia
  ·have:=z _ (fun b o h1 h2 e=>by rw[ap h1,ap h2];exact e) ⟨dx,_,_,hx2 _ _,ag,cN (aJ (fun _ _ h=>ra' h) pr) (.cons (ra' ra) .nil),hdn2 _ _,kk,nl'⟩
   rw[show((rs.length+2:Nat):Int)=(xs.length:Int)+2 by lia] at this
   exact this
end
end Ord
namespace Ord
open PySem L2 Mx
section
variable {K:W.Frag}
def dN (K:W.Frag) (H0:Hp) (dP:Addr) (H:Hp) (kv:Key×V) (e:Int×Bk.aq):Prop:=∃a vs,kv=(Sum.inl e.1,.ref a)∧H0 a=none∧a≠dP∧H a=some (.lst vs)∧Paired (aK.rep K H) vs e.2
structure PartA (K:W.Frag) (H0:Hp) (dP:Addr) (H:Hp) (kvs:List (Key×V)) (g:List (Int×Bk.aq)):Prop where
 at_:H dP=some (.dK kvs)
 grp:Paired (dN K H0 dP H) kvs g
 nd:(kvs.map (·.2)).Nodup
theorem dN.soft {H0 H:Hp}{dP d:Addr}{kv:Key×V}{e:Int×Bk.aq}{o u:HO}(hd:H d=some o) (so:iD o) (ne:kv.2≠.ref d) (h:dN K H0 dP H kv e):dN K H0 dP (upd H d u) kv e:=by
 obtain⟨a,vs,rfl,h1,h2,h3,h4⟩:=h
 exact⟨a,vs,rfl,h1,h2,by rw[ap (fun z=>ne (by rw[z]))];exact h3,aJ (fun _ _ z=>dy hd so z) h4⟩
theorem dN.same {H0 H H':Hp}{dP:Addr}{kv:Key×V}{e:Int×Bk.aq}(s:ar H H') (h:dN K H0 dP H kv e):dN K H0 dP H' kv e:=by
 obtain⟨a,vs,rfl,h1,h2,h3,h4⟩:=h
 exact⟨a,vs,rfl,h1,h2,s _ _ h3,aJ (fun _ _ z=>aK.mono s z) h4⟩
theorem mj {H0 H:Hp}{dP:Addr}{k:Int}:∀{kvs:List (Key×V)}{g:List (Int×Bk.aq)},Paired (dN K H0 dP H) kvs g->(bS kvs (.inl k)=none∧k∉g.map (·.1))∨∃a vs,bS kvs (.inl k)=some (.ref a)∧k∈g.map (·.1)∧V.ref a∈kvs.map (·.2)∧H0 a=none∧a≠dP∧H a=some (.lst vs)∧∃e∈g,vs.length=e.2.length
 | _,_,.nil=>.inl ⟨rfl,(fun h=>nomatch h)⟩
 | kv::kvs,e::g,.cons h t=>by
  obtain⟨a,vs,rfl,h1,h2,h3,h4⟩:=h
  by_cases c:e.1=k
  ·subst c
   exact .inr ⟨a,vs,dj rfl,List.mem_map.mpr ⟨e,List.mem_cons_self,rfl⟩,List.mem_cons_self,h1,h2,h3,e,List.mem_cons_self,h4.length⟩
  ·rw[dm (fun z=>c (Sum.inl.inj z))]
   rcases mj (k:=k) t with⟨b1,b2⟩|⟨a',vs',b1,b2,b3,b4,b5,b6,e',b7,b8⟩
   ·exact .inl ⟨b1,fun z=>by rcases List.mem_cons.mp z with z|z;exact c z.symm;exact b2 z⟩
   ·exact .inr ⟨a',vs',b1,List.mem_cons_of_mem _ b2,List.mem_cons_of_mem _ b3,b4,b5,b6,e',List.mem_cons_of_mem _ b7,b8⟩
theorem qI {H0 H:Hp}{dP a:Addr}{vs:List V}{y:V}{o:List Int}{k:Int}(hy:aK.rep K H y o) (ha:H a=some (.lst vs)):∀{kvs:List (Key×V)}{g:List (Int×Bk.aq)},Paired (dN K H0 dP H) kvs g->(kvs.map (·.2)).Nodup->(g.map (·.1)).Nodup->bS kvs (.inl k)=some (.ref a)->
  Paired (dN K H0 dP (upd H a (.lst (vs++[y])))) kvs (g.map fun e=>if e.1=k then (e.1,e.2++[o]) else e)
 | _,_,.nil,_,_,h=>nomatch h
 | kv::kvs,e::g,.cons h t,nd,nk,hv=>by
  rw[List.map_cons,List.nodup_cons] at nd nk
  have hg:=h
  obtain⟨a',vs',rfl,h1,h2,h3,h4⟩:=h
  rw[List.map_cons]
  by_cases c:e.1=k
  ·subst c
   rw[dj rfl] at hv
   cases hv
   rw[ha] at h3
   cases h3
   rw[if_pos rfl]
   have rest:∀{kvs:List (Key×V)}{g:List (Int×Bk.aq)},Paired (dN K H0 dP H) kvs g->V.ref a∉kvs.map (·.2)->e.1∉g.map (·.1)->Paired (dN K H0 dP (upd H a (.lst (vs++[y])))) kvs (g.map fun e'=>if e'.1=e.1 then (e'.1,e'.2++[o]) else e'):=by
    intro kvs g t
    induction t with
    | nil=>intro _ _;exact .nil
    | @cons kv0 e0 kvs g h _ ih=>
     intro n1 n2
     rw[List.map_cons,List.mem_cons,not_or] at n1 n2
     rw[List.map_cons,if_neg (Ne.symm n2.1)]
     exact .cons (h.soft ha trivial (Ne.symm n1.1)) (ih n1.2 n2.2)
   refine .cons ⟨a,vs++[y],rfl,h1,h2,ag,cN (aJ (fun _ _ z=>dy ha trivial z) h4) (.cons (dy ha trivial hy) .nil)⟩ (rest t nd.1 nk.1)
  ·rw[if_neg c]
   rw[dm (fun z=>c (Sum.inl.inj z))] at hv
   have na:V.ref a'≠V.ref a:=fun z=>by
    have:∀{kvs:List (Key×V)},bS kvs (.inl k)=some (.ref a)->V.ref a∈kvs.map (·.2):=by
     intro kvs
     induction kvs with
     | nil=>intro h;cases h
     | cons kv kvs ih=>
      intro h
      by_cases c:kv.1=.inl k
      ·rw[dj c] at h
       exact List.mem_cons.mpr (.inl (Option.some.inj h).symm)
      ·rw[dm c] at h
       exact List.mem_cons_of_mem _ (ih h)
    exact nd.1 (z▸this hv)
   exact .cons (hg.soft ha trivial na) (qI hy ha t nd.2 nk.2 hv)
theorem lE (p:Nat) (os:Bk.aq):(Bk.bD p os).length≤os.length:=
 Bk.lZ (P:=fun os=>(Bk.bD p os).length≤os.length) (Nat.le_refl _) (fun l x ih=>by
  rw[Bk.dR,List.length_append]
  unfold Bk.jd
  split
  ·rw[List.length_map];simp;lia
  ·rw[List.length_append];simp;lia) os
theorem PartA.more {H0 H:Hp}{dP a e0:Addr}{kvs:List (Key×V)}{vs:List V}{p:Nat}{os:Bk.aq}{y:V}{o:List Int}(h:PartA K H0 dP H kvs (Bk.bD p os)) (he0:H e0=none) (hy:aK.rep K H y o)
  (hv:bS kvs (.inl (Bk.atP p o))=some (.ref a)) (hk:Bk.atP p o∈(Bk.bD p os).map (·.1)) (ha:H a=some (.lst vs)) (nd:a≠dP):PartA K H0 dP (upd (upd H e0 (.lst [])) a (.lst (vs++[y]))) kvs (Bk.bD p (os++[o])):=by
 have s1:ar H (upd H e0 (.lst [])):=ak he0 _
 rw[Bk.dR]
 unfold Bk.jd
 rw[if_pos hk]
 refine⟨?_,qI (aK.mono s1 hy) (s1 _ _ ha) (aJ (fun _ _ z=>z.same s1) h.grp) h.nd (Bk.eG p os).nd hv,h.nd⟩
 rw[ap (Ne.symm nd)]
 exact s1 _ _ h.at_
theorem PartA.fresh {H0 H:Hp}{dP e0:Addr}{kvs:List (Key×V)}{p:Nat}{os:Bk.aq}{y:V}{o:List Int}(h:PartA K H0 dP H kvs (Bk.bD p os)) (he0:H e0=none) (h0:H0 e0=none) (hy:aK.rep K H y o)
  (hv:bS kvs (.inl (Bk.atP p o))=none) (hk:Bk.atP p o∉(Bk.bD p os).map (·.1)) :
  PartA K H0 dP (upd (upd (upd H e0 (.lst [])) dP (.dK (cr kvs (.inl (Bk.atP p o)) (.ref e0)))) e0 (.lst ([]++[y]))) (kvs++[(.inl (Bk.atP p o),.ref e0)]) (Bk.bD p (os++[o])):=by
 have s1:ar H (upd H e0 (.lst [])):=ak he0 _
 have ned:dP≠e0:=au h.at_ he0
 have ep:cr kvs (.inl (Bk.atP p o)) (.ref e0)=kvs++[(.inl (Bk.atP p o),.ref e0)]:=by
  unfold cr
  rw[ip,hv,if_neg (by decide)]
 have hdP:(upd H e0 (.lst [])) dP=some (.dK kvs):=s1 _ _ h.at_
 have he1:∀u,(upd (upd H e0 (.lst [])) dP u) e0=some (.lst []):=fun u=>by rw[ap (Ne.symm ned),ag]
 have far:∀{kvs:List (Key×V)}{g:List (Int×Bk.aq)},Paired (dN K H0 dP H) kvs g->∀kv∈kvs,kv.2≠.ref dP∧kv.2≠.ref e0:=by
  intro kvs g t kv hkv
  obtain⟨e,_,a,vs,rfl,_,h2,h3,_⟩:=eP t kv hkv
  exact⟨fun z=>h2 (V.ref.inj z),fun z=>by
   have:a=e0:=V.ref.inj z
   rw[this,he0] at h3
   cases h3⟩
 have old:∀{kvs:List (Key×V)}{g:List (Int×Bk.aq)}{u v:HO},Paired (dN K H0 dP H) kvs g->(∀kv∈kvs,kv.2≠.ref dP∧kv.2≠.ref e0)->Paired (dN K H0 dP (upd (upd (upd H e0 (.lst [])) dP u) e0 v)) kvs g:=by
  intro kvs g u v t
  induction t with
  | nil=>intro _;exact .nil
  | cons h _ ih=>
   intro f
   obtain⟨f1,f2⟩:=f _ List.mem_cons_self
   exact .cons (((h.same s1).soft hdP trivial f1).soft (he1 u) trivial f2) (ih fun kv hkv=>f kv (List.mem_cons_of_mem _ hkv))
 rw[Bk.dR]
 unfold Bk.jd
 rw[if_neg hk]
 refine⟨by rw[ap ned,ag,ep],cN (old h.grp (far h.grp)) (.cons ⟨e0,[]++[y],rfl,h0,Ne.symm ned,ag,.cons (dy (he1 _) trivial (dy hdP trivial (aK.mono s1 hy))) .nil⟩ .nil),?_⟩
 rw[List.map_append,List.nodup_append]
 refine⟨h.nd,by simp,fun x hx y' hy'=>?_⟩
 obtain⟨kv,hkv,rfl⟩:=List.mem_map.mp hx
 have:y'=V.ref e0:=by simpa using hy'
 rw[this]
 exact(far h.grp kv hkv).2
end
end Ord
namespace Bk
open Mx
theorem jW (b:Int->Nat):∀(ts:List Int) (i:Nat),((ts.take i).map b).sum≤(ts.map b).sum
 | [],i=>by simp
 | t::ts,0=>Nat.zero_le _
 | t::ts,i+1=>by
  have:=jW b ts i
  rw[List.take_succ_cons,List.map_cons,List.map_cons,List.sum_cons,List.sum_cons]
  lia
theorem ui {n:Nat}{os:aq}{rs:List Room}{i:Nat}{t:Int}(h:(heads os)[i]?=some t) :
  (aP (lay n) os ((heads os).take i) rs).2.length+(rests t os).length*n≤rs.length+os.length*n∧(aP (lay n) os ((heads os).take i) rs).2.length≤rs.length+os.length*n:=by
 have nd:(heads os).Nodup:=(cK os).imp fun h e=>absurd h (by rw[e];lia)
 have h1:=ix (f:=lay n) (os:=os) (b:=fun t=>(rests t os).length*n) ((heads os).take i) rs fun t ht rs=>by
  obtain⟨_,r,hr⟩:=bJ.mp (List.mem_of_mem_take ht)
  exact gq n (rests t os) rs fun e=>by
   have:=aV.mpr hr
   rw[e] at this
   cases this
 have h2:=jW (fun t=>(rests t os).length*n) (heads os) (i+1)
 rw[List.take_add_one,h,Option.toList_some,List.map_append,List.sum_append] at h2
 simp only[List.map_cons,List.map_nil,List.sum_cons,List.sum_nil] at h2
 have h3:((heads os).map fun t=>(rests t os).length*n).sum≤os.length*n:=by
  rw[jE n (fun t=>(rests t os).length)]
  exact Nat.mul_le_mul_right n (gp (heads os) os nd)
 lia
theorem rB {n:Nat}{os:aq}{rs:List Room}:(aP (lay n) os (heads os) rs).2.length≤rs.length+os.length*n:=by
 have nd:(heads os).Nodup:=(cK os).imp fun h e=>absurd h (by rw[e];lia)
 have h1:=ix (f:=lay n) (os:=os) (b:=fun t=>(rests t os).length*n) (heads os) rs fun t ht rs=>by
  obtain⟨_,r,hr⟩:=bJ.mp ht
  exact gq n (rests t os) rs fun e=>by
   have:=aV.mpr hr
   rw[e] at this
   cases this
 have h3:((heads os).map fun t=>(rests t os).length*n).sum≤os.length*n:=by
  rw[jE n (fun t=>(rests t os).length)]
  exact Nat.mul_le_mul_right n (gp (heads os) os nd)
 lia
end Bk
namespace L2
open PySem
theorem A8 {kvs:List (Key×V)}:∀{i:Nat}{kv:Key×V},(kvs.map (·.1)).Nodup->kvs[i]?=some kv->bS kvs kv.1=some kv.2:=by
 induction kvs with
 | nil=>intro i kv _ h;simp at h
 | cons k0 kvs ih=>
  intro i kv nd h
  rw[List.map_cons,List.nodup_cons] at nd
  cases i with
  | zero=>simp at h;subst h;exact dj rfl
  | succ i=>
   have h':kvs[i]?=some kv:=by simpa using h
   rw[dm (fun z=>nd.1 (by rw[z];exact List.mem_map.mpr ⟨kv,List.mem_of_getElem? h',rfl⟩))]
   exact ih nd.2 h'
end L2
namespace Ord
open PySem L2 Mx
section
variable {K:W.Frag}{C:Addr}{H H' H'':Hp}{x lr dn:Addr}{rs:List Bk.Room}
def cJ (lr dn:Addr) (H H':Hp):Prop:=∀b o,b≠lr->b≠dn->H b=some o->H' b=some o
theorem cJ.refl:cJ lr dn H H:=fun _ _ _ _ e=>e
theorem cJ.trans (s:cJ lr dn H H') (s':cJ lr dn H' H''):cJ lr dn H H'':=fun b o h1 h2 e=>s' b o h1 h2 (s b o h1 h2 e)
theorem cJ.of (s:ar H H'):cJ lr dn H H':=fun b o _ _ e=>s b o e
theorem cJ.seqT {a:Addr}{xs rx:List V}{L:NL3}(s:cJ lr dn H H') (hlr:H lr=some (.lst rx)) (hdn:H dn=some (ef dn L)) (h:SqT K H a xs):SqT K H' a xs:=by
 rcases h with(h|⟨o,h⟩)|h
 ·exact .inl (.inl (s _ _ (by rintro rfl;rw[hlr] at h;cases h) (by rintro rfl;rw[hdn] at h;cases h) h))
 ·exact .inl (.inr ⟨o,s _ _ (by rintro rfl;rw[hlr] at h;cases h) (by rintro rfl;rw[hdn] at h;cases h) h⟩)
 ·exact .inr h
theorem dU.sameS {y:V}{d:Int×Int}{rx:List V}{L:NL3}(s:cJ lr dn H H') (hlr:H lr=some (.lst rx)) (hdn:H dn=some (ef dn L)) (h:dU K H y d):dU K H' y d:=by
 obtain⟨p,e,q⟩:=h
 exact⟨p,e,s.seqT hlr hdn q⟩
theorem uj {y:V}{o:List Int}{rx:List V}{L:NL3}(s:cJ lr dn H H') (hlr:H lr=some (.lst rx)) (hdn:H dn=some (ef dn L)) (h:aK.rep K H y o):aK.rep K H' y o:=by
 obtain⟨p,rfl,q⟩:=eu h
 exact fY (s.seqT hlr hdn q)
theorem ShA.same (s:ar H H') (h:ShA K C H x lr dn rs):ShA K C H' x lr dn rs:=by
 obtain⟨dx,xs,L,h1,h2,h3,h4,h5,h6⟩:=h.ex
 exact⟨dx,xs,L,s _ _ h1,s _ _ h2,aJ (fun _ _ z=>z.same s) h3,s _ _ h4,fun e he=>cR.mono s (h5 e he),h6⟩
theorem ShA.upd {d:Addr}{o u:HO}(hd:H d=some o) (so:iD o) (n1:x≠d) (n2:lr≠d) (n3:dn≠d) (h:ShA K C H x lr dn rs):ShA K C (L2.upd H d u) x lr dn rs:=by
 obtain⟨dx,xs,L,h1,h2,h3,h4,h5,h6⟩:=h.ex
 exact⟨dx,xs,L,by rw[ap n1];exact h1,by rw[ap n2];exact h2,aJ (fun _ _ z=>z.soft hd so) h3,by rw[ap n3];exact h4,fun e he=>iE hd so (h5 e he),h6⟩
end
end Ord
namespace Ord
open PySem L2 Mx
abbrev gY:Stmt:=top 31
section
variable {P:Program}{w:World}{K:W.Frag}{mg:Str->Option Value}{base:Heap}{CO C:Addr}
def iG (K:W.Frag) (C:Addr) (n:Nat):Sp:=fun vs H Q _=>∃(x lr dn l:Addr) (rs:List Bk.Room) (p:Nat) (ys:List V) (os:Bk.aq),vs=[.ref x,.ref l,.int (p:Int)]∧ShA K C H x lr dn rs∧SqL K H l ys∧Paired (aK.rep K H) ys os∧Bk.OrdsOk p n os∧os.length≤1000∧rs.length+os.length*n<1000∧
 ∀H',cJ lr dn H H'->ShA K C H' x lr dn (Bk.lay n (os.map (List.drop p)) rs).2->Q (.int ((Bk.lay n (os.map (List.drop p)) rs).1:Nat)) H'
theorem iH:FnScope ["shelf","orders","place","parted","order","doors"] ["shelf","orders","place"] (am gY):={}
theorem lF {f fk:Addr}{fd fdk:FuncData}(F:Fun K "shelve" "shelve" gY f fd) (T:TxB K mg CO) (c:ShC K C) (mk:Meth K C "keep" fk) (Fk:FnOk P w K mg base CX0 1 fk fdk ["self","room"] (qH K C)) (bk:cC K fdk ["self","room"] [])
  (n:Nat) (WS:∀m,n=m+1->Df P w K mg base CX0 (m+2) "shelve" ["shelf","orders","place"] (iG K C m)):FnOk P w K mg base CX0 (n+2) f fd ["shelf","orders","place"] (iG K C n):=by
 refine F.ok iH (fun vs H Q E h=>?_) (fun cdv A outer s H vs Q E hr h=>?_)
 ·obtain⟨x,lr,dn,l,rs,p,ys,os,rfl,_⟩:=h
  rfl
 obtain⟨x,lr,dn,l,rs,p,ys,os,rfl,S,ql,po,ok,few,fewr,z⟩:=h
 obtain⟨t1,m1⟩:=T.en
 cases n with
 | zero=>
  refine⟨_,af (aQ (aI dz (pv 2) (aw aN rfl T.t.len bM (ac (bT (show IxR _ (dJ K) from bA) (pv 1) ao (fun _ _=>rfl)) ae)) (aM _)) (ai (aL (bj (v:=.int 1) rfl m1 ⟨t1,rfl⟩))) aB) (af bn (af bn (af bn (ai bn)))),?_⟩
  obtain⟨o,ho⟩:=List.exists_mem_of_ne_nil os ok.ne
  have hp:0<os.length:=List.length_pos_of_mem ho
  obtain⟨y,hy,ro⟩:=io po (List.getElem?_eq_getElem hp)
  obtain⟨a,rfl,qa⟩:=eu ro
  have la:=ok.len _ (List.getElem_mem hp)
  refine⟨_,rfl,_,rfl,l,_,0,.ref a,rfl,rfl,ql,br (j:=0) hy,a,_,rfl,.inr qa,rfl,_,rfl,?_⟩
  rw[decide_eq_true (by rw[List.length_map,la];rfl)]
  exact aG (z H (fun b o _ _ e=>e) S)
 | succ n=>
  have D:=WS n rfl
  refine⟨_,af (aQ (aI dz (pv 2) (aw aN rfl T.t.len bM (ac (bT (show IxR _ (dJ K) from bA) (pv 1) ao (fun _ _=>rfl)) ae)) (aM _)) (ai bn) aB)
   (af (ay (i:=3) iH.nd rfl (Or.inr rfl) wX)
   (af (PS.nox (cZ PassesOwn.never rfl (cg (pv 1)) (bQ (i:=4) iH.nd rfl (Or.inl rfl))
    (ai (bq (bP PySem.F.plainAttrs_list PySem.F.slot_list_append PySem.F.type_list_append de
     (bP PySem.F.plainAttrs_dict PySem.F.slot_dict_setdefault PySem.F.type_dict_setdefault nQ (pv 3) (ac (pxT K (pv 4) (pv 2)) (ac (bH ae) ae))) (ac (pv 4) ae))))))
   (af (si (i0:=5) iH.nd rfl (Or.inl rfl) rfl (show CScope (am gY) ["shelf","orders","place","parted","order","doors"] _ _ from by constructor <;> decide +kernel) (zo (pv 3)) (fun _ _ _ _ _ _=>cw)
     (fun cl C' s₂ H₂ fp aa=>eK (ac (pv 0) (ac (aF D hr rfl pS (ac (pv 1) (ac (ze (nW hr) (pv 4) (pv 0) (fun _ _=>rfl)) (ac (aA ck (pv 3) ao) ae)))) ae))) rfl)
   (ai (aL (yN (pv 0) c.cls mk Fk (hr.mono (by lia)) bk .nil yc (ac (aZ dS rfl T.t.tuple eE (ac (pv 5) ae)) ae))))))),?_⟩
  obtain⟨o,ho⟩:=List.exists_mem_of_ne_nil os ok.ne
  have hp:0<os.length:=List.length_pos_of_mem ho
  obtain⟨y,hy,ro⟩:=io po (List.getElem?_eq_getElem hp)
  obtain⟨a,rfl,qa⟩:=eu ro
  have la:=ok.len _ (List.getElem_mem hp)
  have hlen:=po.length
  refine⟨_,rfl,_,rfl,l,_,0,.ref a,rfl,rfl,ql,br (j:=0) hy,a,_,rfl,.inr qa,rfl,_,rfl,?_⟩
  rw[decide_eq_false (fun h=>by have:=V.int.inj h;rw[List.length_map,la] at this;lia)]
  refine aO ?_
  intro dP hdP
  have s1:ar H (upd H dP (.dK [])):=ak hdP _
  refine⟨_,rfl,l,rfl,⟨_,s1.seqL ql⟩,dZ (K:=K) (a:=l) (xs:=ys) (fun i σ H2=>∃v4 kvs,σ=[some (.ref x),some (.ref l),some (.int (p:Int)),some (.ref dP),v4,none]∧ar H H2∧PartA K H dP H2 kvs (Bk.bD p (os.take i))) ⟨none,[],rfl,s1,ag,.nil,List.nodup_nil⟩ ?_ ?_ ?_⟩
  ·rintro i σ H2 _ ⟨v4,kvs,rfl,s2,_⟩
   exact s2.seqL ql
  ·rintro i y σ H2 hy ⟨v4,kvs,rfl,s2,PA⟩
   obtain⟨o,ho,ro⟩:=bR po hy
   obtain⟨a,rfl,qa⟩:=eu ro
   have lo:=ok.len o (List.mem_of_getElem? ho)
   have il:=(List.getElem?_eq_some_iff.mp ho).1
   have at_:atI (o.map V.int) (p:Int)=some (.int (Bk.atP p o)):=br (by
    unfold Bk.atP
    rw[List.getElem?_map,List.getElem?_eq_getElem (show p<o.length by lia)]
    rfl)
   have gl:kvs.length≤i:=by
    have h1:=PA.grp.length
    have h2:=lE p (os.take i)
    rw[List.length_take] at h2
    lia
   refine⟨_,rfl,.inr (.inr (.inl ⟨rfl,.inl ⟨_,PA.at_⟩⟩)),_,rfl,_,rfl,a,_,(p:Int),.int (Bk.atP p o),rfl,rfl,s2.seqT qa,at_,by show 0≤sizeLine;decide,fun e0 he0=>?_⟩
   have s3:ar H2 (upd H2 e0 (.lst [])):=ak he0 _
   refine⟨dP,kvs,.inl (Bk.atP p o),.ref e0,rfl,rfl,s3 _ _ PA.at_,by rw[sizeLine_eq];lia,fun y' hv=>?_,fun hv=>?_⟩
   ·rcases mj (k:=Bk.atP p o) PA.grp with⟨b1,_⟩|⟨ga,vs,b1,b2,b3,b4,b5,b6,e,b7,b8⟩
    ·rw[b1] at hv;cases hv
    rw[b1] at hv
    cases hv
    have vl:vs.length≤os.length:=by
     rw[b8,(Bk.eG p (os.take i)).each e b7]
     refine Nat.le_trans (List.length_filter_le _ _) ?_
     rw[List.length_take]
     lia
    refine⟨.inl ⟨rfl,_,.inl (.inl (s3 _ _ b6))⟩,_,rfl,ga,vs,.ref a,rfl,rfl,s3 _ _ b6,by rw[sizeLine_eq];lia,_,kvs,rfl,fun b u q=>?_,?_⟩
    ·rw[ap (au q b4)]
     exact s3 b u (s2 b u q)
    ·rw[aR ho]
     exact PA.more he0 (fY (s2.seqT qa)) b1 b2 b6 b5
   ·rcases mj (k:=Bk.atP p o) PA.grp with⟨b1,b2⟩|⟨ga,vs,b1,_⟩
    ·have ned:dP≠e0:=au PA.at_ he0
     have he1:(upd (upd H2 e0 (.lst [])) dP (.dK (cr kvs (.inl (Bk.atP p o)) (.ref e0)))) e0=some (.lst []):=by rw[ap (Ne.symm ned),ag]
     refine⟨.inl ⟨rfl,_,.inl (.inl he1)⟩,_,rfl,e0,[],.ref a,rfl,rfl,he1,by decide,_,kvs++[(.inl (Bk.atP p o),.ref e0)],rfl,fun b u q=>?_,?_⟩
     ·rw[ap (au q (s2.free he0)),ap (au q hdP)]
      exact s3 b u (s2 b u q)
     ·rw[aR ho]
      exact PA.fresh he0 (s2.free he0) (fY (s2.seqT qa)) b1 b2
    ·rw[b1] at hv;cases hv
  ·rintro σ H2 ⟨v4,kvs,rfl,s2,PA⟩
   rw[hlen,List.take_length] at PA
   have S':=S
   obtain⟨dx,rx,L,hx,hlr,prs,hdn,hkk,nl⟩:=S.ex
   have ldP:lr≠dP:=au hlr hdP
   have ndP:dn≠dP:=au hdn hdP
   have keys:=ok.keys
   have gl:kvs.length=(Bk.bD p os).length:=PA.grp.length
   have gk:(Bk.bD p os).length=(Bk.heads (os.map (List.drop p))).length:=by rw[←keys,List.length_map]
   have glen:=lE p os
   refine⟨_,rfl,dP,kvs,rfl,PA.at_,fun ob=>?_⟩
   have dPs:iD (.dK kvs):=trivial
   have xdP:x≠dP:=au hx hdP
   have S2:ShA K C (upd H2 dP (.frz ob (.dK kvs))) x lr dn rs:=(S.same s2).upd PA.at_ dPs xdP ldP ndP
   have kn:(kvs.map (·.1)).Nodup:=by
    have e:∀{kvs:List (Key×V)}{g:List (Int×Bk.aq)},Paired (dN K H dP H2) kvs g->kvs.map (·.1)=g.map fun e=>Sum.inl e.1:=by
     intro kvs g t
     induction t with
     | nil=>rfl
     | cons h _ ih=>
      obtain⟨a,vs,rfl,_⟩:=h
      rw[List.map_cons,List.map_cons,ih]
    rw[e PA.grp]
    have:=(Bk.eG p os).nd
    unfold List.Nodup at this ⊢
    rw[List.pairwise_map] at this ⊢
    exact this.imp fun h z=>h (Sum.inl.inj z)
   refine vd (a:=dP) (ob:=ob) (kvs:=kvs) (fun i ds H3=>cJ lr dn (upd H2 dP (.frz ob (.dK kvs))) H3∧ShA K C H3 x lr dn (Bk.aP (Bk.lay n) (os.map (List.drop p)) ((Bk.heads (os.map (List.drop p))).take i) rs).2∧Paired (dU K H3) ds (Bk.aP (Bk.lay n) (os.map (List.drop p)) ((Bk.heads (os.map (List.drop p))).take i) rs).1∧ds.length=i) ⟨cJ.refl,S2,.nil,rfl⟩ ?_ (by rw[sizeLine_eq];lia) ?_ ?_
   ·rintro i ds H3 hi ⟨s3,_,_,hl⟩
    exact⟨s3 _ _ (Ne.symm ldP) (Ne.symm ndP) ag,by lia⟩
   ·rintro i kv ds H3 hkv ⟨s3,S3,p3,hl⟩
    obtain⟨e,he,ga,vs,rfl,g1,g2,g3,g4⟩:=bR PA.grp hkv
    have mem:=List.mem_of_getElem? he
    obtain⟨oke,rst,ele⟩:=ok.group mem
    have ht:(Bk.heads (os.map (List.drop p)))[i]?=some e.1:=by rw[←keys,List.getElem?_map,he];rfl
    obtain⟨bd1,bd2⟩:=Bk.ui (n:=n) (rs:=rs) ht
    have lr2:e.2.length=(Bk.rests e.1 (os.map (List.drop p))).length:=by rw[←rst,List.length_map]
    rw[List.length_map,←lr2] at bd1
    have mul:List.length os*(n+1)=List.length os*n+List.length os:=Nat.mul_succ _ _
    have hdP3:=s3 _ _ (Ne.symm ldP) (Ne.symm ndP) (ag (H:=H2) (a:=dP) (o:=.frz ob (.dK kvs)))
    have nga:ga≠lr∧ga≠dn:=⟨(fun z=>by rw[z,hlr] at g1;cases g1),(fun z=>by rw[z,hdn] at g1;cases g1)⟩
    have hg3:H3 ga=some (.lst vs):=s3 _ _ nga.1 nga.2 (by rw[ap g2];exact g3)
    have hlr2:(upd H2 dP (.frz ob (.dK kvs))) lr=some (.lst rx):=by rw[ap ldP];exact s2 _ _ hlr
    have hdn2:(upd H2 dP (.frz ob (.dK kvs))) dn=some (ef dn L):=by rw[ap ndP];exact s2 _ _ hdn
    have rv:Paired (aK.rep K H3) vs e.2:=aJ (fun _ _ z=>uj s3 hlr2 hdn2 (dy PA.at_ dPs z)) g4
    refine goT (aG ?_)
    refine⟨_,rfl,_,rfl,_,rfl,_,rfl,dP,.ref ga,rfl,.inl ⟨kvs,.inl e.1,.inr ⟨ob,hdP3⟩,rfl,(A8 kn hkv).symm⟩,_,rfl,(p:Int),1,rfl,rfl,x,lr,dn,ga,_,p+1,vs,e.2,rfl,S3,.inl (.inl hg3),rv,oke,by lia,by lia,fun H4 s4 S4=>?_⟩
    rw[rst] at S4 ⊢
    refine⟨by show 2≤sizeLine;decide,fun tq htq=>?_⟩
    obtain⟨dx3,rx3,L3,_,hlr3,_,hdn3,_⟩:=S3.ex
    have s5:=ak htq (.tup [V.int e.1,V.int ((Bk.lay n (Bk.rests e.1 (os.map (List.drop p))) (Bk.aP (Bk.lay n) (os.map (List.drop p)) ((Bk.heads (os.map (List.drop p))).take i) rs).2).1:Nat)])
    rw[aR ht,Bk.ni]
    refine⟨s3.trans (s4.trans (cJ.of s5)),S4.same s5,cN (aJ (fun _ _ z=>(z.sameS s4 hlr3 hdn3).same s5) p3) (.cons ⟨tq,rfl,SqT.up⟩ .nil),by simp;lia⟩
   ·rintro ds H3 c0 ⟨s3,S3,p3,hl⟩ hc0
    rw[gl,gk,List.take_length] at S3 p3
    have s4:ar H3 (upd H3 c0 (.lst ds)):=ak hc0 _
    have S4:=S3.same s4
    obtain⟨dx4,_,_,hx4,_⟩:=S4.ex
    refine⟨_,rfl,x,dx4,_,rfl,hx4,rfl,_,rfl,c0,ds,rfl,.inl ⟨SqL.up,fun r0 hr0=>?_⟩⟩
    have s5:=ak hr0 (.tup ds)
    have db:=Bk.rB (n:=n) (os:=os.map (List.drop p)) (rs:=rs)
    rw[List.length_map] at db
    have mul:List.length os*(n+1)=List.length os*n+List.length os:=Nat.mul_succ _ _
    refine⟨x,lr,dn,_,.ref r0,_,rfl,S4.same s5,⟨r0,ds,rfl,SqT.up,aJ (fun _ _ z=>z.same (s4.trans s5)) p3⟩,by lia,fun H6 s6 S6=>?_⟩
    refine z H6 (fun b u h1 h2 q=>?_) S6
    refine s6 b u h1 h2 (s5 b u (s4 b u (s3 b u h1 h2 ?_)))
    rw[ap (au q hdP)]
    exact s2 b u q
theorem nI {f fk:Addr}{fd fdk:FuncData}(F:Fun K "shelve" "shelve" gY f fd) (T:TxB K mg CO) (c:ShC K C) (mk:Meth K C "keep" fk) (Fk:FnOk P w K mg base CX0 1 fk fdk ["self","room"] (qH K C)) (bk:cC K fdk ["self","room"] [])
  (b:cC K fd ["shelf","orders","place"] []) (m:mg "shelve"=some (.ref f)):∀n,FnOk P w K mg base CX0 (n+2) f fd ["shelf","orders","place"] (iG K C n)
 | 0=>lF F T c mk Fk bk 0 fun m h=>nomatch h
 | n+1=>lF F T c mk Fk bk (n+1) fun k h=>by
  cases h
  exact⟨f,fd,nI F T c mk Fk bk b m n,b,F.kp,m⟩
end
end Ord
namespace Ord
open PySem L2 Mx
abbrev mn:Stmt:=top 30
theorem nJ:∀{a b:List Int},Bk.lt a b->HT.bF a b=true
 | [],[],h=>h.elim
 | [],_::_,_=>rfl
 | _::_,[],h=>h.elim
 | x::a,y::b,h=>by
  rcases h with h|⟨rfl,h⟩
  ·rw[HT.dD,if_neg (by lia)]
   exact decide_eq_true h
  ·rw[HT.dD,if_pos rfl]
   exact nJ h
section
variable {P:Program}{w:World}{K:W.Frag}{mg:Str->Option Value}{base:Heap}{CO C:Addr}
def fh (many:Nat) (os:Bk.aq):List Bk.Room×Nat:=if os=[] then ([],0) else ((Bk.lay many os []).2,(Bk.lay many os []).1)
structure BookN (K:W.Frag) (H0 H:Hp) (t lr:Addr) (many:Int) (rs:List Bk.Room) (first:Int):Prop where
 ft:H0 t=none
 fl:H0 lr=none
 at_:H t=some (.tup [.int many,.ref lr,.int first])
 rooms:∃xs,H lr=some (.lst xs)∧Paired (bg K H) xs rs
def km (K:W.Frag):Sp:=fun vs H Q _=>∃(many:Nat) (l:Addr) (ys:List V) (os:Bk.aq),vs=[.int (many:Int),.ref l]∧SqL K H l ys∧Paired (aK.rep K H) ys os∧(∀o∈os,o0 many o)∧1≤many∧many≤8∧os.length<64∧
 ∀(t lr:Addr) (H':Hp),ar H H'->BookN K H H' t lr many (fh many os).1 (fh many os).2->Q (.ref t) H'
theorem iI:FnScope ["many","orders","order","shelf","first"] ["many","orders"] (am mn):={}
theorem vU {f fi:Addr}{fd fdi:FuncData}(F:Fun K "book_of" "book_of" mn f fd) (T:TxB K mg CO) (c:ShC K C) (M:Mk K C fi) (Fi:FnOk P w K mg base CX0 1 fi fdi ["self"] (vT K C)) (bi:cC K fdi ["self"] []) (mC:mg "Shelf"=some (.ref C))
  (WC:Df P w K mg base (CX1 P w) 3 "look_count" ["many"] (lR CO)) (WL:Df P w K mg base (CX1 P w) 4 "look_order" ["many","order"] (uZ K CO)) (WS:∀n,Df P w K mg base CX0 (n+2) "shelve" ["shelf","orders","place"] (iG K C n)) :
  FnOk P w K mg base (CX1 P w) 12 f fd ["many","orders"] (km K):=by
 refine F.okX iI (fun vs H Q E h=>?_) (fun X cdv A outer s H vs Q E hX hp hra hr h=>?_)
 ·obtain⟨many,l,ys,os,rfl,_⟩:=h
  rfl
 obtain⟨many,l,ys,os,rfl,ql,po,good,m1,m8,few,z⟩:=h
 obtain⟨t0,m0⟩:=T.no
 have hlen:=po.length
 subst hX
 refine⟨_,af (bq (aF WC (hr.mono (by decide)) rfl hp (ac (pv 0) ae)))
  (af (PS.nox (cZ PassesOwn.never rfl (cg (pv 1)) (bQ (i:=2) iI.nd rfl (Or.inl rfl)) (ai (bq (aF WL (hr.mono (by decide)) rfl kO (ac (pv 0) (ac (pv 2) ae)))))))
  (af (aQ (aI dz (aw aN rfl T.t.len bM (ac (pv 1) ae)) ao (aM _)) (ai (aL (eK (ac (pv 0) (ac (bH ae) (ac (bj (v:=.int 0) rfl m0 ⟨t0,rfl⟩) ae)))))) aB)
  (af (ay (i:=3) iI.nd rfl (Or.inl rfl) (wF M Fi (hr.mono (by decide)) rfl mC bi .nil yc))
  (af (ay (i:=4) iI.nd rfl (Or.inl rfl) (aF (WS many) (hr.mono (by lia)) rfl pS (ac (pv 3) (ac (aw pB rfl T.t.sorted oW (ac (pv 1) ae)) (ac ao ae)))))
  (ai (aL (eK (ac (pv 0) (ac (gL (pv 3) rfl) (ac (pv 4) ae)))))))))),?_⟩
 refine⟨_,rfl,(many:Int),rfl,gh (by lia) (by lia),?_⟩
 rw[if_pos (by lia)]
 refine⟨_,rfl,l,rfl,⟨_,ql⟩,dZ (K:=K) (a:=l) (xs:=ys) (fun i σ H2=>∃v2,σ=[some (.int (many:Int)),some (.ref l),v2,none,none]∧ar H H2) ⟨none,rfl,ar.refl H⟩ ?_ ?_ ?_⟩
 ·rintro i σ H2 _ ⟨v2,rfl,s2⟩
  exact s2.seqL ql
 ·rintro i y σ H2 hy ⟨v2,rfl,s2⟩
  obtain⟨o,ho,ro⟩:=bR po hy
  obtain⟨a,rfl,qa⟩:=eu ro
  have g:=good o (List.mem_of_getElem? ho)
  have gl:(o.length:Int)=many:=g.2.2.1
  refine⟨_,rfl,_,rfl,(many:Int),a,o,rfl,gh (by lia) (by lia),⟨s2.seqT qa,by lia,fun x hx=>?_⟩,fun _ H3 s3=>⟨_,rfl,s2.trans s3⟩,fun ng=>absurd g ng⟩
  have:=g.2.2.2.mem hx
  exact gh (by lia) (by lia)
 ·rintro σ H2 ⟨v2,rfl,s2⟩
  refine⟨_,rfl,l,_,rfl,.inl (s2.seqL ql),rfl,_,rfl,?_⟩
  by_cases e0:os=[]
  ·subst e0
   have y0:ys.length=0:=hlen
   rw[y0,decide_eq_true (by rfl)]
   refine aG ⟨_,rfl,by show 0≤sizeLine;decide,fun lr hlr=>?_⟩
   have s3:=s2.trans (ak hlr (.lst []))
   refine⟨by show 3≤sizeLine;decide,fun t ht=>?_⟩
   have s4:=ak ht (.tup [V.int (many:Int),V.ref lr,V.int 0])
   exact z t lr _ (s3.trans s4) ⟨s3.free ht,s2.free hlr,ag,[],s4 _ _ ag,.nil⟩
  ·have hpos:0<os.length:=List.length_pos_iff.mpr e0
   rw[decide_eq_false (fun h=>by have:=V.int.inj h;lia)]
   refine aO ?_
   intro x dx hx0 hdx0 ndx
   have u1:=ak hdx0 (.own x)
   have hx1:(upd H2 dx (.own x)) x=none:=by rw[ap (Ne.symm ndx)];exact hx0
   have u2:=ak hx1 (.ins C dx [])
   have s3:=s2.trans (u1.trans u2)
   refine⟨x,dx,rfl,ag,fun lr dn H3 hlr hdn keep SA=>⟨rfl,?_⟩⟩
   have s4:ar H H3:=fun b u q=>keep b u (au q (s2.free hx0)) (s3 b u q)
   have flr:H lr=none:=s3.free hlr
   have fdn:H dn=none:=s3.free hdn
   refine⟨_,rfl,_,rfl,.ref l,os,rfl,⟨l,ys,rfl,s4.seqL ql,aJ (fun _ _ z=>aK.mono s4 z) po⟩,fun ks hk=>?_,few,fun l2 as' kss' hl2 pas perm ris=>?_⟩
   ·have g:=good ks hk
    have:(ks.length:Int)=many:=g.2.2.1
    intro e
    subst e
    simp at this
    lia
   have s5:=ak hl2 (.lst as')
   have mem:∀o∈kss',o0 many o:=fun o ho=>good o (perm.mem_iff.mp ho)
   have kl:kss'.length=os.length:=perm.length_eq
   have d0:kss'.map (List.drop 0)=kss':=(List.map_congr_left fun o _=>(List.drop_zero:o.drop 0=o)).trans (List.map_id _)
   have like:Bk.lay many (kss'.map (List.drop 0)) []=Bk.lay many os []:=by
    rw[d0]
    exact Bk.pH many [] fun o=>perm.mem_iff
   have lb:fh many os=((Bk.lay many os []).2,(Bk.lay many os []).1):=by unfold fh;rw[if_neg e0]
   refine⟨x,lr,dn,l2,[],0,as',kss',rfl,SA.same s5,SqL.up,aJ (fun _ _ z=>aK.mono s5 z) pas,⟨fun e=>?_,fun o ho=>?_,fun o ho y hy=>?_,?_⟩,by lia,?_,fun H5 s6 S5=>?_⟩
   ·rw[e] at kl
    simp at kl
    lia
   ·have:(o.length:Int)=many:=(mem o ho).2.2.1
    lia
   ·have g:=mem o ho
    have gl:(o.length:Int)=many:=g.2.2.1
    have:=g.2.2.2.mem hy
    lia
   ·exact ris.imp fun h z=>by
     have:=nJ z
     rw[List.drop_zero,List.drop_zero,h] at this
     cases this
   ·show 0+kss'.length*many<1000
    have:kss'.length*many≤63*8:=Nat.mul_le_mul (by lia) m8
    lia
   ·rw[like] at S5 ⊢
    obtain⟨dx5,xs5,L5,hx5,hlr5,pr5,_⟩:=S5.ex
    refine⟨_,rfl,_,rfl,x,C,dx5,_,.ref lr,rfl,hx5,c.cls,c.rooms,rfl,_,rfl,by show 3≤sizeLine;decide,fun t ht=>?_⟩
    have s7:=ak ht (.tup [V.int (many:Int),V.ref lr,V.int (((Bk.lay many os []).1:Nat):Int)])
    have s8:ar H H5:=fun b u q=>s6 b u (au q flr) (au q fdn) (s5 b u (s4 b u q))
    rw[lb] at z
    exact z t lr _ (s8.trans s7) ⟨s8.free ht,flr,ag,xs5,s7 _ _ hlr5,aJ (fun _ _ z=>z.same s7) pr5⟩
end
end Ord
namespace L2
open PySem PySem.Spec PyProof.Rows
theorem zT (xs:List V) (k:Nat):cH xs none (some (k:Int))=xs.take k:=by
 unfold cH
 rw[HT.rJ,HT.jY]
 simp only[List.drop_zero,Nat.sub_zero]
 by_cases h:k≤xs.length
 ·rw[Nat.min_eq_left h]
 ·rw[Nat.min_eq_right (by lia),List.take_of_length_le (Nat.le_refl _),List.take_of_length_le (by lia)]
theorem vV (xs:List V):cH xs (some (-1)) none=xs.drop (xs.length-1):=by
 unfold cH
 have e:HT.sIx xs.length 0 (some (-1))=xs.length-1:=by
  simp only[HT.sIx]
  rw[if_pos (by decide)]
  lia
 rw[e,HT.jY]
 exact List.take_of_length_le (by rw[List.length_drop];lia)
def yr (K:W.Frag):R2:=fun x y H Q=>∃a b xs ys,x=.ref a∧y=.ref b∧SqT K H a xs∧SqT K H b ys∧xs.length+ys.length≤sizeLine∧∀r H',ar H H'->SqT K H' r (xs++ys)->Q (.ref r) H'
theorem zU {X:Cx}:OpR X (binaryOp .Add) (yr X.K):=by
 intro aa s σ H x y v u Q I rx ry h
 obtain⟨a,b,xs,ys,e1,e2,ha,hb,hz,q⟩:=h
 by_cases hx:xs=[]
 ·subst hx
  exact wR aa s σ H x y v u Q I rx ry ⟨a,b,ys,e1,e2,ha,hb,q b H (ar.refl H) hb⟩
 ·refine yQ aa s σ H x y v u Q I rx ry ⟨a,b,xs,ys,e1,e2,ha,hb,hx,hz,fun hy=>?_,fun hy p hp=>?_⟩
  ·subst hy
   exact q a H (ar.refl H) (by rw[List.append_nil];exact ha)
  ·exact q p _ (ak hp _) SqT.up
section
variable {α β γ:Type} [DecidableEq α] [DecidableEq β] [DecidableEq γ]
def jL (a b:α×β×γ) (j:Nat):Bool:=match j with
 | 0=>decide (a.1=b.1)
 | 1=>decide (a.2.1=b.2.1)
 | _=>decide (a.2.2=b.2.2)
theorem qJ (k1:Dk α) (k2:Dk β) (k3:Dk γ) {X:Cx}{aa:List (Addr×Obj)}{σ:St}{H:Hp}{s:Shared}{A:Around}{x1 x2 x3 y1 y2 y3:V}{a b:α×β×γ}{us vs:List Value}(I:Inv X aa σ H s) (hu:A.units+(k1.dep+k2.dep+k3.dep)<cLine)
  (p1:k1.rep X.K H x1 a.1) (p2:k2.rep X.K H x2 a.2.1) (p3:k3.rep X.K H x3 a.2.2) (q1:k1.rep X.K H y1 b.1) (q2:k2.rep X.K H y2 b.2.1) (q3:k3.rep X.K H y3 b.2.2) (r1:av [x1,x2,x3] us) (r2:av [y1,y2,y3] vs) :
  us.toArray.size=3∧vs.toArray.size=3∧∀j (h1:j<us.toArray.size) (h2:j<vs.toArray.size),SeqAt.EqAt A s us.toArray[j] vs.toArray[j] (jL a b j):=by
 cases r1 with
 | cons s1 r1=>cases r1 with
 | cons s2 r1=>cases r1 with
 | cons s3 r1=>cases r1 with
 | nil=>cases r2 with
 | cons t1 r2=>cases r2 with
 | cons t2 r2=>cases r2 with
 | cons t3 r2=>cases r2 with
 | nil=>
  refine⟨rfl,rfl,fun j h1 h2=>?_⟩
  match j,h1,h2 with
  | 0,_,_=>exact k1.eqAt I (by lia) p1 q1 s1 t1
  | 1,_,_=>exact k2.eqAt I (by lia) p2 q2 s2 t2
  | 2,_,_=>exact k3.eqAt I (by lia) p3 q3 s3 t3
  | n+3,h,_=>exact absurd h (by simp)
theorem mo (a b:α×β×γ):((List.range (min 3 3)).all (jL a b)&&3==3)=decide (a=b):=by
 obtain⟨a1,a2,a3⟩:=a
 obtain⟨b1,b2,b3⟩:=b
 simp[List.range,List.range.loop,Prod.ext_iff,jL]
def ET (k1:Dk α) (k2:Dk β) (k3:Dk γ):Dk (α×β×γ) where
 rep:=fun K H x a=>∃p x1 x2 x3,x=.ref p∧SqT K H p [x1,x2,x3]∧k1.rep K H x1 a.1∧k2.rep K H x2 a.2.1∧k3.rep K H x3 a.2.2
 dep:=k1.dep+k2.dep+k3.dep+1
 mono:=fun s ⟨p,x1,x2,x3,e,q,r1,r2,r3⟩=>⟨p,x1,x2,x3,e,s.seqT q,k1.mono s r1,k2.mono s r2,k3.mono s r3⟩
 fn:=fun {X aa σ H s x a b} I ⟨p,x1,x2,x3,e,q,r1,r2,r3⟩ ⟨p',y1,y2,y3,e',q',t1,t2,t3⟩=>by
  rw[e] at e'
  cases e'
  have:=I.tuple_inj q q'
  cases this
  exact Prod.ext (k1.fn I r1 t1) (Prod.ext (k2.fn I r2 t2) (k3.fn I r3 t3))
 eqAt:=fun {X aa σ H s A x y a b u v} I hu ⟨p,x1,x2,x3,e,q,r1,r2,r3⟩ ⟨p',y1,y2,y3,e',q',t1,t2,t3⟩ rx ry=>by
  subst e e'
  cases rx
  cases ry
  by_cases hp:p=p'
  ·subst hp
   have:=I.tuple_inj q q'
   cases this
   have:a=b:=Prod.ext (k1.fn I r1 t1) (Prod.ext (k2.fn I r2 t2) (k3.fn I r3 t3))
   subst this
   rw[decide_eq_true rfl]
   exact SeqAt.EqAt.same _
  ·obtain⟨its,v1,w1,_⟩:=I.tuple q
   obtain⟨its',v2,w2,_⟩:=I.tuple q'
   refine SeqAt.EqAt.of_refs hp ?_
   obtain⟨z1,z2,ev⟩:=qJ k1 k2 k3 (A:=A.in1) I (by show A.units+1+_<cLine;lia) r1 r2 r3 t1 t2 t3 v1 v2
   have h:=SeqAt.RcAt.tuples (A:=A) (e:=jL a b) w1 w2 (by lia) ev
   rw[z1,z2,mo] at h
   exact h
 rcAt:=fun {X aa σ H s A x y a b u v} I hu ⟨p,x1,x2,x3,e,q,r1,r2,r3⟩ ⟨p',y1,y2,y3,e',q',t1,t2,t3⟩ rx ry=>by
  subst e e'
  cases rx
  cases ry
  obtain⟨its,v1,w1,_⟩:=I.tuple q
  obtain⟨its',v2,w2,_⟩:=I.tuple q'
  obtain⟨z1,z2,ev⟩:=qJ k1 k2 k3 (A:=A.in1) I (by show A.units+1+_<cLine;lia) r1 r2 r3 t1 t2 t3 v1 v2
  have h:=SeqAt.RcAt.tuples (A:=A) (e:=jL a b) w1 w2 (by lia) ev
  rw[z1,z2,mo] at h
  exact h
 neAt:=fun {X aa σ H s A x y a b u v} I hu ⟨p,x1,x2,x3,e,q,r1,r2,r3⟩ ⟨p',y1,y2,y3,e',q',t1,t2,t3⟩ rx ry=>by
  subst e e'
  cases rx
  cases ry
  obtain⟨its,v1,w1,_⟩:=I.tuple q
  obtain⟨its',v2,w2,_⟩:=I.tuple q'
  obtain⟨z1,z2,ev⟩:=qJ k1 k2 k3 (A:=A.in1) I (by show A.units+1+_<cLine;lia) r1 r2 r3 t1 t2 t3 v1 v2
  have h:=SeqAt.RcNeAt.tuples (A:=A) (e:=jL a b) w1 w2 (by lia) ev
  rw[z1,z2,mo] at h
  exact h
end
end L2
namespace Bk
open Mx
def A9 (many:Nat) (o:List Int):aq:=((aY many).filter fun t=>!o.contains t).map fun t=>o++[t]
def ext (many:Nat) (os:aq):aq:=os.flatMap (A9 many)
def ko (many:Nat):Nat->aq
 | 0=>[[]]
 | k+1=>ext many (ko many k)
def eT (many:Nat):aq:=ko many many
def ltb:List Int->List Int->Bool
 | x::a,y::b=>decide (x<y)||(decide (x=y)&&ltb a b)
 | _,_=>false
theorem nK:∀{a b:List Int},ltb a b=true->lt a b
 | [],_,h=>by cases h
 | _::_,[],h=>by cases h
 | x::a,y::b,h=>by
  simp only[ltb,Bool.or_eq_true,Bool.and_eq_true,decide_eq_true_eq] at h
  rcases h with h|⟨h1,h2⟩
  ·exact .inl h
  ·exact .inr ⟨h1,nK h2⟩
def uk:aq->Bool
 | []=>true
 | o::os=>os.all (ltb o)&&uk os
theorem vW:∀{os:aq},uk os=true->dQ os
 | [],_=>List.Pairwise.nil
 | o::os,h=>by
  simp only[uk,Bool.and_eq_true,List.all_eq_true] at h
  exact List.Pairwise.cons (fun o' ho=>nK (h.1 o' ho)) (vW h.2)
theorem xO:∀m∈[1,2,3,4,5],(eT m).all (fun o=>(aY m).isPerm o)=true:=by decide +kernel
theorem zV:∀m∈[1,2,3,4],uk (eT m)=true:=by decide +kernel
theorem qK:∀m∈[1,2,3,4],(eT m).length≤24:=by decide +kernel
theorem xP:∀m∈[1,2,3,4,5],∀k∈[0,1,2,3,4,5],(ko m k).length≤200:=by decide +kernel
theorem in5 {m:Nat}(h1:1≤m) (h5:m≤5):m∈[1,2,3,4,5]:=by
 have:m=1∨m=2∨m=3∨m=4∨m=5:=by lia
 rcases this with rfl|rfl|rfl|rfl|rfl <;> decide
theorem in4 {m:Nat}(h1:1≤m) (h4:m≤4):m∈[1,2,3,4]:=by
 have:m=1∨m=2∨m=3∨m=4:=by lia
 rcases this with rfl|rfl|rfl|rfl <;> decide
theorem EU {k:Nat}(h:k≤5):k∈[0,1,2,3,4,5]:=by
 have:k=0∨k=1∨k=2∨k=3∨k=4∨k=5:=by lia
 rcases this with rfl|rfl|rfl|rfl|rfl|rfl <;> decide
theorem nL {m:Nat}{o:List Int}(h1:1≤m) (h5:m≤5) (h:o∈eT m):(aY m).Perm o:=by
 have:=xO m (in5 h1 h5)
 rw[List.all_eq_true] at this
 exact List.isPerm_iff.mp (this o h)
theorem kq {m:Nat}{o:List Int}(h1:1≤m) (h5:m≤5) (h:o∈eT m):o.length=m∧Mx.Ord o:=by
 have p:=nL h1 h5 h
 have l:o.length=m:=by rw[←p.length_eq,cV]
 refine⟨l,?_⟩
 unfold Mx.Ord
 rw[l]
 exact(oV p (rd m)).symm
theorem qL {m:Nat}:∀(k:Nat),∀o∈ko m k,o.length=k
 | 0,o,h=>by
  rw[List.mem_singleton.mp h]
  rfl
 | k+1,o,h=>by
  obtain⟨o',h1,h2⟩:=List.mem_flatMap.mp h
  obtain⟨t,_,rfl⟩:=List.mem_map.mp h2
  rw[List.length_append,qL k o' h1]
  rfl
theorem xQ {m:Nat}{os:aq}{i:Nat}{o:List Int}(h:os[i]?=some o):ext m (os.take (i+1))=ext m (os.take i)++A9 m o:=by
 unfold ext
 rw[List.take_add_one,h]
 simp
theorem Ba {m:Nat}{os:aq}(i:Nat):(ext m (os.take i)).length≤(ext m os).length:=by
 have:ext m os=ext m (os.take i)++ext m (os.drop i):=by
  unfold ext
  rw[←List.flatMap_append,List.take_append_drop]
 rw[this,List.length_append]
 lia
structure SetOk (many:Nat) (os:aq):Prop where
 m1:1≤many
 m5:many≤5
 mem:∀o∈os,o∈eT many
 ris:dQ os
 len:os.length≤24
 five:many=5->os.length≤2
theorem SetOk.of {many:Nat}{os:aq}(m1:1≤many) (m4:many≤4) (h:os.Sublist (eT many)):SetOk many os where
 m1:=m1
 m5:=by lia
 mem:=fun o ho=>h.subset ho
 ris:=(vW (zV many (in4 m1 m4))).sublist h
 len:=Nat.le_trans h.length_le (qK many (in4 m1 m4))
 five:=fun e=>by lia
theorem SetOk.sets {many:Nat}{os:aq}(S:SetOk many os):fX many (fun x=>0≤x∧x<(many:Int)) os:=fun o ho=>by
 have p:=nL S.m1 S.m5 (S.mem o ho)
 have mm:∀x,x∈o↔0≤x∧x<(many:Int):=fun x=>by rw[←p.mem_iff];exact cL
 refine⟨(kq S.m1 S.m5 (S.mem o ho)).1,fun x hx=>?_,p.nodup_iff.mp (kM many),mm⟩
 have:=(mm x).mp hx
 have:=S.m5
 lia
theorem vX:∀m∈[1,2,3,4],iw m≤41:=by decide +kernel
theorem SetOk.rooms {many:Nat}{os:aq}(S:SetOk many os) (ne:os≠[]):(lay many os []).2.length<70:=by
 by_cases h:many=5
 ·have a:=gq many os [] ne
  have b:=S.five h
  have c:os.length*many≤2*5:=Nat.mul_le_mul b S.m5
  simp only[List.length_nil] at a
  lia
 ·have a:=jb many _ os [] S.sets ne
  have b:=vX many (in4 S.m1 (by have:=S.m5;lia))
  simp only[List.length_nil] at a
  lia
end Bk
namespace Ord
open PySem L2 Mx
theorem qM (many:Nat):fh many []=([],0):=by unfold fh;rw[if_pos rfl]
theorem sK {many:Nat}{os:Bk.aq}(h:os≠[]):fh many os=((Bk.lay many os []).2,(Bk.lay many os []).1):=by unfold fh;rw[if_neg h]
section
variable {many:Nat}{os:Bk.aq}(S:Bk.SetOk many os)
include S
theorem SetOk.whole:WholeB many (fh many os).1 (fh many os).2:=by
 have m1:=S.m1
 have m5:=S.m5
 by_cases e:os=[]
 ·subst e
  rw[qM]
  exact ug m1 (by lia)
 ·rw[sK e]
  exact vR m1 (by lia) S.sets e (S.rooms e)
end
theorem xR {many:Nat}(m1:1≤many) (m5:many≤5) {o:List Int}(ho:o∈Bk.eT many):o0 many o:=by
 obtain⟨a,b⟩:=Bk.kq m1 m5 ho
 exact⟨by lia,by lia,by lia,b⟩
abbrev jM:Dk (Int×List (List (List Int))×Int):=ET tL (tM cR) tL
def xS (many:Nat) (p:List Bk.Room×Nat):Int×List (List (List Int))×Int:=((many:Int),p.1.map enc,(p.2:Int))
theorem qN {K:W.Frag}{H:Hp}{x:V}{many:Nat}{p:List Bk.Room×Nat}(h:BookA K H x many p.1 p.2):jM.rep K H x (xS many p):=by
 obtain⟨b,l,xs,e,q,ql,pr⟩:=h.ex
 exact⟨b,_,_,_,e,q,rfl,⟨l,xs,rfl,ql,gn pr⟩,rfl⟩
theorem BookN.a {K:W.Frag}{H0 H:Hp}{t lr:Addr}{many:Int}{rs:List Bk.Room}{first:Int}(h:BookN K H0 H t lr many rs first):BookA K H (.ref t) many rs first:=by
 obtain⟨xs,a,b⟩:=h.rooms
 exact⟨t,lr,xs,rfl,SqT.of h.at_,SqL.of a,b⟩
end Ord
namespace Ord
open PySem L2 Mx
theorem WholeB.bok {m:Nat}{rs:List Bk.Room}{f:Nat}(W:WholeB m rs f):BOk m rs f:=by
 have m1:=W.m1
 have m8:=W.m8
 refine⟨⟨by lia,by lia⟩,fun i r e=>?_,?_,W.nd,W.walk⟩
 ·have ok:=W.rooms.wf i r e
  obtain⟨mt,_⟩:=Bk.tX W.rooms.mask W.rooms.wf e
  have mem:=List.mem_of_getElem? e
  refine⟨⟨ok.ne,ok.rise,fun d hd=>?_⟩,fun d hd=>(mt d hd).2.2.2.2.1,fun d hd=>?_⟩
  ·have ah:=ok.ahead d hd
   exact⟨(mt d hd).1,W.rooms.less r mem d hd,ah.1,by lia⟩
  ·rw[(mt d hd).2.2.2.2.2]
   obtain⟨d0,r',rfl⟩:=List.exists_cons_of_ne_nil ok.ne
   exact(mt d0 List.mem_cons_self).2.2.2.2.2.symm
 ·rw[Int.toNat_natCast]
  rcases W.fst with h|⟨h1,h2,h3⟩
  ·exact .inl (by lia)
  ·exact .inr ⟨by lia,by rw[Bk.cF];lia,h3⟩
theorem kr {a n:Int}:∀{l:List Int},l.Pairwise (· < ·)->(∀x∈l,a≤x∧x<n)->(l.length:Int)≤max 0 (n-a)
 | [],_,_=>by simp;lia
 | x::l,p,h=>by
  have hx:=h x (List.mem_cons_self ..)
  obtain⟨p1,p2⟩:=List.pairwise_cons.mp p
  have:=kr (a:=x+1) (n:=n) p2 fun y hy=>⟨by have:=p1 y hy;lia,(h y (List.mem_cons_of_mem _ hy)).2⟩
  rw[List.length_cons]
  lia
theorem mq {m f:Int}{rs:List Bk.Room}(few:rs.length<70) (B:BOk m rs f):Sm5 m rs f:=by
 obtain⟨h1,h2,h3⟩:=nF few B
 have m8:=B.m
 have room:∀r∈rs,r≠[]∧DOk m 72 r:=fun r hr=>by
  obtain⟨i,hi⟩:=List.getElem?_of_mem hr
  have il:i<rs.length:=(List.getElem?_eq_some_iff.mp hi).1
  obtain⟨ne,d⟩:=(B.fo i r hi).1
  exact⟨ne,d.rise,fun x hx=>by have:=d.all x hx;lia⟩
 have f0:0≤f:=by
  rcases B.fst with h|⟨h,_⟩ <;> lia
 refine⟨⟨⟨by lia,by lia⟩,⟨f0,by lia⟩,fun r hr=>⟨?_,fun d hd=>?_⟩⟩,h1,h2,fun r hr=>⟨(room r hr).1,h3 r hr⟩⟩
 ·have:=kr (a:=0) (n:=m) (room r hr).2.rise fun x hx=>by
   obtain⟨d,hd,rfl⟩:=List.mem_map.mp hx
   have:=(room r hr).2.all d hd
   lia
  rw[List.length_map] at this
  lia
 ·have:=(room r hr).2.all d hd
  exact⟨⟨this.1,by lia⟩,⟨by lia,by lia⟩⟩
end Ord
namespace Ord
open PySem L2 Mx
theorem DT {many:Nat}{os:Bk.aq}(S:Bk.SetOk many os) (m4:many≤4):(fh many os).1.length≤41:=by
 by_cases e:os=[]
 ·subst e
  rw[qM]
  decide
 ·rw[sK e]
  have a:=Bk.jb many _ os [] S.sets e
  have b:=Bk.vX many (Bk.in4 S.m1 m4)
  simp only[List.length_nil] at a
  show(Bk.lay many os []).2.length≤41
  lia
def bO (c:Nat) (z:Str):Nat:=z.cps.toList.count c
theorem ez (c:Nat) (a b:Str):bO c (a++b)=bO c a+bO c b:=by
 unfold bO
 rw[Str.cps_append,Array.toList_append,List.count_append]
theorem qO (c:Nat):∀{xs:List Str},xs≠[]->(∀x∈xs,c∉x.cps.toList)->bO c (Str.join (sg c) xs)+1=xs.length
 | [],h,_=>absurd rfl h
 | [x],_,h=>by
  show x.cps.toList.count c+1=1
  rw[List.count_eq_zero.mpr (h x (List.mem_cons_self ..))]
 | x::y::r,_,h=>by
  have ih:=qO c (xs:=y::r) (List.cons_ne_nil _ _) fun z hz=>h z (List.mem_cons_of_mem _ hz)
  unfold bO at *
  rw[fg,List.count_append,List.count_cons_self,List.count_eq_zero.mpr (h x (List.mem_cons_self ..)),List.length_cons]
  lia
theorem jj (c:Nat) (z:Str):(Txt.split z (sg c)).length=bO c z+1:=by
 have h:=qO c (xs:=Txt.split z (sg c)) (by
  have:=PyProof.Rows.split_pos z (sg c)
  intro e
  rw[e] at this
  exact absurd this (by decide)) (StrLaws.split_free z c)
 rw[StrLaws.join_split z (sg c)] at h
 exact h.symm
end Ord
namespace Ord
open PySem L2 Mx
theorem ku {z:Str}{k:Nat}(h:k≤z.length):(Txt.slice z none (some (k:Int))).cps.toList=z.cps.toList.take k:=by
 have zl:z.cps.toList.length=z.length:=by rw[Array.length_toList];rfl
 have e:Txt.slice z none (some (k:Int))=⟨((z.cps.toList.drop 0).take ((k:Int)-0).toNat).toArray⟩:=StrLaws.sliceText_to ⟨by lia,by lia⟩
 rw[e]
 show(z.cps.toList.drop 0).take ((k:Int)-0).toNat=_
 rw[List.drop_zero,show((k:Int)-0).toNat=k by lia]
theorem lG {z:Str}{k:Nat}(h:k≤z.length):(Txt.slice z (some (k:Int)) none).cps.toList=z.cps.toList.drop k:=by
 have zl:z.cps.toList.length=z.length:=by rw[Array.length_toList];rfl
 have e:Txt.slice z (some (k:Int)) none=⟨((z.cps.toList.drop ((k:Int)).toNat).take ((z.cps.toList.length:Int)-k).toNat).toArray⟩:=StrLaws.sliceText_from ⟨by lia,by lia⟩
 rw[e]
 show(z.cps.toList.drop ((k:Int)).toNat).take _=_
 rw[Int.toNat_natCast]
 exact List.take_of_length_le (by rw[List.length_drop];lia)
theorem um {z:Str}{k:Nat}(h:z.length<k):(Txt.slice z (some (k:Int)) none).length=0∨z.length=0:=by
 unfold Txt.slice
 have e:(Builtin.Str.strSliceIndices (some (k:Int)) none 1 z.length).length=0:=by
  unfold Builtin.Str.strSliceIndices PySem.sliceRange
  simp only[show(1:Int) > 0 by decide,if_true,List.length_map,List.length_range]
  split <;> (try split) <;> (try split) <;> (try simp only[Int.ediv_one]) <;> lia
 rw[e]
 split
 ·rename_i hh
  right
  simp at hh
  lia
 ·left
  rw[List.length_eq_zero_iff.mp e]
  rfl
theorem mv (c k:Nat) (l:List Nat):(l.take k).count c+(l.drop k).count c=l.count c:=by
 rw[←List.count_append,List.take_append_drop]
theorem nM {z:Str}{c:Nat}(h:z.length=0):bO c z=0:=by
 have zl:z.cps.toList.length=z.length:=by rw[Array.length_toList];rfl
 unfold bO
 rw[List.length_eq_zero_iff.mp (zl.trans h)]
 rfl
theorem qP {z:Str}{c k:Nat}:bO c (Txt.slice z (some ((k+1:Nat):Int)) none)≤(z.cps.toList.drop k).count c:=by
 by_cases h:k+1≤z.length
 ·unfold bO
  rw[lG h,show z.cps.toList.drop (k+1)=(z.cps.toList.drop k).drop 1 from by rw[List.drop_drop]]
  exact(List.drop_sublist 1 _).count_le c
 ·have e:bO c (Txt.slice z (some ((k+1:Nat):Int)) none)=0:=by
   rcases um (z:=z) (k:=k+1) (by lia) with q|q
   ·exact nM q
   ·exact nM (by have:=Txt.slice_le z (some ((k+1:Nat):Int)) none;lia)
  lia
theorem mw (c d:Nat):bO c (sg d)≤1:=by
 unfold bO sg
 show [d].count c≤1
 exact Nat.le_trans List.count_le_length (Nat.le_refl 1)
structure Chg (z z':Str):Prop where
 c:bO 10 z'≤bO 10 z+1
 l:z'.length≤3*z.length+3
theorem Bb {z:Str}{k d:Nat}(h:k≤z.length):Chg z (Txt.slice z none (some (k:Int))++sg d++Txt.slice z (some (k:Int)) none):=by
 have a:=Txt.slice_le z none (some (k:Int))
 have b:=Txt.slice_le z (some (k:Int)) none
 have e:=mv 10 k z.cps.toList
 have o:=mw 10 d
 refine⟨?_,?_⟩
 ·rw[ez,ez]
  unfold bO at *
  rw[ku h,lG h]
  lia
 ·rw[Str.length_append,Str.length_append]
  show _+1+_≤_
  lia
theorem zW {z:Str}{k d:Nat}(h:k≤z.length):Chg z (Txt.slice z none (some (k:Int))++sg d++Txt.slice z (some ((k+1:Nat):Int)) none):=by
 have a:=Txt.slice_le z none (some (k:Int))
 have b:=Txt.slice_le z (some ((k+1:Nat):Int)) none
 have e:=mv 10 k z.cps.toList
 have o:=mw 10 d
 have p:=qP (z:=z) (c:=10) (k:=k)
 refine⟨?_,?_⟩
 ·rw[ez,ez]
  have q:bO 10 (Txt.slice z none (some (k:Int)))=(z.cps.toList.take k).count 10:=by unfold bO;rw[ku h]
  have r:bO 10 z=z.cps.toList.count 10:=rfl
  lia
 ·rw[Str.length_append,Str.length_append]
  show _+1+_≤_
  lia
theorem zX {z:Str}{k:Nat}(h:k≤z.length):Chg z (Txt.slice z none (some (k:Int))++Txt.slice z (some ((k+1:Nat):Int)) none):=by
 have a:=Txt.slice_le z none (some (k:Int))
 have b:=Txt.slice_le z (some ((k+1:Nat):Int)) none
 have e:=mv 10 k z.cps.toList
 have p:=qP (z:=z) (c:=10) (k:=k)
 refine⟨?_,?_⟩
 ·rw[ez]
  have q:bO 10 (Txt.slice z none (some (k:Int)))=(z.cps.toList.take k).count 10:=by unfold bO;rw[ku h]
  have r:bO 10 z=z.cps.toList.count 10:=rfl
  lia
 ·rw[Str.length_append]
  lia
theorem zY {z r:Str}(h:r∈Txt.split z (sg 10)):Chg z (z++sg 10++r):=by
 have f:bO 10 r=0:=List.count_eq_zero.mpr (StrLaws.split_free z 10 r h)
 have l:=PyProof.Rows.part_short h
 refine⟨?_,?_⟩
 ·rw[ez,ez]
  have:=mw 10 10
  lia
 ·rw[Str.length_append,Str.length_append]
  show _+1+_≤_
  lia
end Ord
namespace Ord
open PySem L2 Mx
theorem sL {c B:Nat}{xs:List Str}(h:∀x∈xs,x.length≤B):(Txt.join (sg c) xs).length≤xs.length*(B+1):=by
 have e:Txt.join (sg c) xs=Str.join (sg c) xs:=StrLaws.glued_eq_join (sg c) xs
 rw[e]
 have a:=StrLaws.join_length_le (sg c) xs
 have b:=gX (l:=xs) (f:=fun x:Str=>x.length) (B:=B) h
 have d:xs.length*(sg c).length=xs.length:=Nat.mul_one _
 rw[Nat.mul_add,Nat.mul_one]
 rw[d] at a
 lia
theorem vY {m f:Int}{rs:List Bk.Room}(few:rs.length<70) (B:BOk m rs f):∀r∈rs,r.length≤8:=fun r hr=>by
 obtain⟨i,hi⟩:=List.getElem?_of_mem hr
 obtain⟨_,d⟩:=(B.fo i r hi).1
 have m8:=B.m
 have:=kr (a:=0) (n:=m) d.rise fun x hx=>by
  obtain⟨e,he,rfl⟩:=List.mem_map.mp hx
  have:=d.all e he
  lia
 rw[List.length_map] at this
 lia
theorem uo {m f:Int}{rs:List Bk.Room}(few:rs.length≤41) (B:BOk m rs f):(eR m rs f).length≤8000:=by
 have S:=mq (by lia) B
 have dr:=vY (by lia) B
 have room:∀r∈rs,(aW r).length≤176:=fun r hr=>by
  have a:=sL (c:=32) (B:=21) (xs:=r.map fun d=>ax 58 d.1 d.2) fun x hx=>by
   obtain⟨d,hd,rfl⟩:=List.mem_map.mp hx
   have:=(S.s.rs r hr).2 d hd
   exact dG this.1 this.2
  rw[List.length_map] at a
  have:=dr r hr
  show(Txt.join (sg 32) _).length≤176
  lia
 have a:=sL (c:=10) (B:=176) (xs:=ax 32 m f::rs.map aW) fun x hx=>by
  rcases List.mem_cons.mp hx with rfl|hx
  ·exact Nat.le_trans (dG S.s.m S.s.f) (by decide)
  ·obtain⟨r,hr,rfl⟩:=List.mem_map.mp hx
   exact room r hr
 rw[List.length_cons,List.length_map] at a
 show(Txt.join (sg 10) _).length≤8000
 lia
end Ord
namespace L2
open PySem
theorem vZ {α:Type}{xs:List α}{z:Int}{v:α}(h0:0≤z) (h:xs[z.toNat]?=some v):atI xs z=some v:=by
 have:=br h
 rw[show((z.toNat:Nat):Int)=z by lia] at this
 exact this
end L2
namespace Ord
open PySem L2 Mx
abbrev uq:Stmt:=top 43
abbrev xT:Stmt:=top 44
abbrev ur:Stmt:=top 45
abbrev qQ:Stmt:=top 46
abbrev gH:Stmt:=top 52
section
variable {P:Program}{w:World}{K:W.Frag}{mg:Str->Option Value}{base:Heap}{CO:Addr}
def Scr (K:W.Frag) (H:Hp) (a:Addr):Prop:=∃ns:List Int,SqL K H a (ns.map V.int)
theorem Scr.same {H H':Hp}{a:Addr}(h:Scr K H a) (e:ar H H'):Scr K H' a:=let ⟨ns,q⟩:=h;⟨ns,e.seqL q⟩
def v9 (K:W.Frag):Sp:=fun vs H Q _=>∃(a:Addr) (k:Int),vs=[.ref a,.int k]∧Scr K H a∧∀c:Int,Q (.int c) H
theorem Bc:FnScope ["_law_script","_law_k"] ["_law_script","_law_k"] (am uq):={}
theorem zZ {f:Addr}{fd:FuncData}(F:Fun K "_law_cell" "_law_cell" uq f fd) (T:TxB K mg CO):FnOk P w K mg base CX0 1 f fd ["_law_script","_law_k"] (v9 K):=by
 refine F.ok Bc (fun vs H Q E h=>?_) (fun cdv A outer s H vs Q E hr h=>?_)
 ·obtain⟨a,k,rfl,_⟩:=h
  rfl
 obtain⟨a,k,rfl,⟨ns,hs⟩,q⟩:=h
 refine⟨_,af (aQ (oA (pv 0) (fun _=>rfl)) (ai (aL (bT bA (pv 0) (aA cB (pv 1) (aw aN rfl T.t.len bM (ac (pv 0) ae))) (fun _ _=>rfl)))) aB) (ai (aL ao)),?_⟩
 refine⟨_,rfl,_,.inl ⟨_,hs,rfl⟩,?_⟩
 cases ns with
 | nil=>exact aO (q 0)
 | cons n0 nt=>
  refine aG ?_
  have hl:((n0::nt).map V.int).length=(n0::nt).length:=List.length_map _
  have pos:(0:Int)<(((n0::nt).map V.int).length:Nat):=by rw[hl];simp only[List.length_cons];lia
  have h0:=Int.emod_nonneg k (Int.ne_of_gt pos)
  have h1:=Int.emod_lt_of_pos k pos
  have hlt:(k % (((n0::nt).map V.int).length:Nat)).toNat<(n0::nt).length:=by rw[hl] at h0 h1 ⊢;lia
  refine⟨_,rfl,_,rfl,_,rfl,a,_,rfl,.inl hs,_,_,rfl,rfl,pos,a,_,_,V.int ((n0::nt)[(k % (((n0::nt).map V.int).length:Nat)).toNat]'hlt),rfl,rfl,hs,vZ h0 ?_,q _⟩
  rw[List.getElem?_map,List.getElem?_eq_getElem hlt]
  rfl
def lH (K:W.Frag):Sp:=fun vs H Q _=>∃(a:Addr) (k:Int),vs=[.ref a,.int k]∧Scr K H a∧∀m:Int,0≤m->m<4294967231->Q (.int m) H
theorem ut:FnScope ["_law_script","_law_k","_law_number"] ["_law_script","_law_k"] (am xT):={}
theorem Bd {f:Addr}{fd:FuncData}(F:Fun K "_law_mix" "_law_mix" xT f fd) (T:TxB K mg CO) (WC:Df P w K mg base CX0 1 "_law_cell" ["_law_script","_law_k"] (v9 K)):FnOk P w K mg base CX0 2 f fd ["_law_script","_law_k"] (lH K):=by
 refine F.ok ut (fun vs H Q E h=>?_) (fun cdv A outer s H vs Q E hr h=>?_)
 ·obtain⟨a,k,rfl,_⟩:=h
  rfl
 obtain⟨a,k,rfl,hs,q⟩:=h
 refine⟨_,af (ay (i:=2) ut.nd rfl (Or.inl rfl) (aA cB (aA ck (aF WC hr rfl pS (ac (pv 0) (ac (pv 1) ae))) (aA oy ao (aA ck (pv 1) ao))) ao))
  (af (ay (i:=2) ut.nd rfl (Or.inl rfl) (aA cB (aA oy (pv 2) ao) ao))
  (ai (aL (aA cB (aA ck (aA oy (aA gJ (pv 2) ao) ao) (pv 2)) ao)))),?_⟩
 refine⟨_,rfl,_,rfl,a,k,rfl,hs,fun c=>?_⟩
 refine⟨_,rfl,_,_,rfl,rfl,_,_,rfl,rfl,.inl ⟨by decide,by decide⟩,_,_,rfl,rfl,_,_,rfl,rfl,by show(0:Int)<4294967291;decide,?_⟩
 refine⟨_,rfl,_,_,rfl,rfl,.inr ⟨by decide,by decide⟩,_,_,rfl,rfl,by show(0:Int)<4294967279;decide,?_⟩
 refine⟨_,rfl,_,_,rfl,rfl,⟨by decide,by decide⟩,_,_,rfl,rfl,.inr ⟨by decide,by decide⟩,_,rfl,_,_,rfl,rfl,_,_,rfl,rfl,by show(0:Int)<4294967231;decide,?_⟩
 exact q _ (Int.emod_nonneg _ (by decide)) (Int.emod_lt_of_pos _ (by decide))
def OL (K:W.Frag) (H:Hp) (a:Addr) (os:Bk.aq):Prop:=∃ys,H a=some (.lst ys)∧Paired (aK.rep K H) ys os
theorem OL.same {H H':Hp}{a:Addr}{os:Bk.aq}(s:ar H H') (h:OL K H a os):OL K H' a os:=by
 obtain⟨ys,q,p⟩:=h
 exact⟨ys,s _ _ q,aJ (fun _ _ z=>aK.mono s z) p⟩
theorem OL.new {H:Hp}{a:Addr}{ys:List V}{os:Bk.aq}(ha:H a=none) (p:Paired (aK.rep K H) ys os):OL K (upd H a (.lst ys)) a os:=
 ⟨ys,ag,aJ (fun _ _ z=>aK.mono (ak ha _) z) p⟩
def yt (K:W.Frag):Sp:=fun vs H Q _=>∃many:Nat,vs=[.int (many:Int)]∧1≤many∧many≤5∧∀(l:Addr) (H':Hp),ar H H'->H l=none->OL K H' l (Bk.eT many)->Q (.ref l) H'
abbrev NA:List Str:=["_law_many","_law_found","_law_k","_law_longer","_law_order"]
theorem gw:FnScope NA ["_law_many"] (am ur):={}
theorem xU {t:Int}{o:List Int}:inV (.int t) (o.map V.int)=o.contains t:=by
 induction o with
 | nil=>rfl
 | cons x o ih=>
  simp only[inV,List.map_cons,List.any_cons,List.contains_cons] at ih ⊢
  rw[ih]
  congr 1
  simp[eqV,gP,eq_comm]
theorem wa (many i:Nat) (o:List Int):(((Mx.aY (i+1)).filter fun t=>!o.contains t).map fun t=>o++[t])=(((Mx.aY i).filter fun t=>!o.contains t).map fun t=>o++[t])++(if o.contains (i:Int)=true then [] else [o++[(i:Int)]]):=by
 rw[Bk.mX,List.filter_append,List.map_append]
 congr 1
 by_cases h:o.contains (i:Int)=true
 ·rw[if_pos h,List.filter_cons_of_neg (by rw[h];decide)]
  rfl
 ·rw[if_neg h,List.filter_cons_of_pos (by rw[Bool.eq_false_iff.mpr h];rfl)]
  rfl
theorem Be {f:Addr}{fd:FuncData}(F:Fun K "_law_all" "_law_all" ur f fd) (T:TxB K mg CO):FnOk P w K mg base CX0 1 f fd ["_law_many"] (yt K):=by
 refine F.ok gw (fun vs H Q E h=>?_) (fun cdv A outer s H vs Q E hr h=>?_)
 ·obtain⟨many,rfl,_⟩:=h
  rfl
 obtain⟨many,rfl,m1,m5,z⟩:=h
 refine⟨_,af (ay (i:=1) gw.nd rfl (Or.inl rfl) (bH (ac (eK ae) ae)))
  (af (cZ PassesOwn.never rfl (gb rfl T.t.range (ac (pv 0) ae)) (bQ (i:=2) gw.nd rfl (Or.inl rfl))
   (af (ay (i:=3) gw.nd rfl (Or.inl rfl) (bH ae))
   (af (cZ PassesOwn.never rfl (cg (pv 1)) (bQ (i:=4) gw.nd rfl (Or.inr rfl))
    (ai (ay (i:=3) gw.nd rfl (Or.inl rfl) (aA kF (pv 3) (eB rfl (show CScope (am ur) NA _ _ from by constructor <;> decide +kernel) (gb rfl T.t.range (ac (pv 0) ae))
     (fun _ _ _ _ _ _=>lN (aI (show OpR _ _ (rIn K true) from oG) (pv 0) (pv 5) rfl))
     (fun cl C s₂ H₂ fp aa=>aA (show OpR _ _ (yr K) from zU) (pv 5) (eK (ac (pv 0) ae))) gw.nd)))))
   (ai (ay (i:=1) gw.nd rfl (Or.inl rfl) (pv 3))))))
  (ai (aL (pv 1)))),?_⟩
 refine⟨by show 0≤sizeLine;decide,fun t0 ht0=>?_⟩
 have u0:=ak ht0 (.tup [])
 refine⟨by show 1≤sizeLine;decide,fun l0 hl0=>?_⟩
 have u1:=ak hl0 (.lst [V.ref t0])
 have r0:aK.rep K (upd H t0 (.tup [])) (.ref t0) []:=fY (SqT.of ag)
 refine⟨_,rfl,_,rfl,by lia,by lia,mx (lo:=0) (n:=((many:Int)).toNat) (fun k σ H1=>∃v2 v3 v4 l,σ=[some (.int (many:Int)),some (.ref l),v2,v3,v4]∧ar H H1∧H l=none∧OL K H1 l (Bk.ko many k)) ⟨none,none,none,l0,rfl,u0.trans u1,u0.free hl0,OL.new hl0 (.cons r0 .nil)⟩ ?_ ?_⟩
 ·rintro k σ H1 hk ⟨v2,v3,v4,l,rfl,s1,hlf,ol⟩
  have hk5:k<many:=by lia
  refine⟨by show 0≤sizeLine;decide,fun g0 hg0=>?_⟩
  have s2:=ak hg0 (.lst [])
  obtain⟨ys,hl,py⟩:=ol
  have hlen:=py.length
  refine⟨_,rfl,l,rfl,⟨_,SqL.of (s2 _ _ hl)⟩,dZ (K:=K) (a:=l) (xs:=ys) (fun i σ H2=>∃v4 g,σ=[some (.int (many:Int)),some (.ref l),some (.int (0+(k:Int))),some (.ref g),v4]∧ar H1 H2∧H1 g=none∧OL K H2 g (Bk.ext many ((Bk.ko many k).take i))) ⟨v4,g0,rfl,s2,hg0,[],ag,.nil⟩ ?_ ?_ ?_⟩
  ·rintro i σ H2 _ ⟨v4,g,rfl,s3,_⟩
   exact SqL.of (s3 _ _ hl)
  ·rintro i y σ H2 hy ⟨v4,g,rfl,s3,hgf,og⟩
   obtain⟨o,ho,ro⟩:=bR py hy
   obtain⟨a,rfl,qa⟩:=eu (aK.mono s3 ro)
   have lo:o.length=k:=Bk.qL k o (List.mem_of_getElem? ho)
   obtain⟨gs,hg,pg⟩:=og
   have glen:=pg.length
   have b1:(Bk.ext many ((Bk.ko many k).take i)).length≤200:=Nat.le_trans (Bk.Ba i) (Bk.xP many (Bk.in5 m1 m5) (k+1) (Bk.EU (by lia)))
   refine⟨_,rfl,_,rfl,_,rfl,by lia,by lia,oK (lo:=0) (n:=((many:Int)).toNat) (fun j zs H3=>ar H2 H3∧Paired (aK.rep K H3) zs (((Mx.aY j).filter fun t=>!o.contains t).map fun t=>o++[t])) ⟨ar.refl H2,.nil⟩ ?_ (by rw[sizeLine_eq];lia) ?_ ?_⟩
   ·rintro j zs H3 hj ⟨_,p3⟩
    rw[p3.length,List.length_map]
    refine Nat.le_trans (List.length_filter_le _ _) ?_
    rw[Mx.cV]
    exact Nat.le_refl _
   ·rintro j zs H3 hj ⟨s4,p3⟩
    have qa3:=s4.seqT qa
    refine⟨_,rfl,_,rfl,a,_,rfl,.inr qa3,rfl,dh _,_,rfl,?_⟩
    rw[wa many,if_pos rfl,show(0+(j:Int))=(j:Int) by lia,xU]
    by_cases c:o.contains (j:Int)=true
    ·rw[c]
     refine aO ⟨s4,?_⟩
     rw[if_pos rfl,List.append_nil]
     exact p3
    ·rw[Bool.eq_false_iff.mpr c]
     refine aG ⟨_,rfl,_,rfl,by show 1≤sizeLine;decide,fun t1 ht1=>?_⟩
     have s5:=ak ht1 (.tup [V.int (j:Int)])
     refine⟨a,t1,_,_,rfl,rfl,s5.seqT qa3,SqT.up,by rw[List.length_map,sizeLine_eq];simp;lia,fun r H5 s6 hr=>?_⟩
     refine⟨s4.trans (s5.trans s6),?_⟩
     rw[if_neg Bool.false_ne_true]
     refine cN (aJ (fun _ _ z=>aK.mono (s5.trans s6) z) p3) (.cons (fY ?_) .nil)
     rw[List.map_append]
     exact hr
   ·rintro zs H3 c0 ⟨s4,p3⟩ hc0
    have s5:=ak hc0 (.lst zs)
    have zl:zs.length≤5:=by
     rw[p3.length,List.length_map]
     refine Nat.le_trans (List.length_filter_le _ _) ?_
     rw[Mx.cV]
     lia
    refine⟨g,c0,gs,zs,rfl,rfl,s5 _ _ (s4 _ _ hg),ag,by rw[sizeLine_eq];lia,fun n0 hn0=>?_⟩
    have s6:=ak hn0 (.lst (gs++zs))
    refine⟨_,n0,rfl,s3.trans (s4.trans (s5.trans s6)),s3.free (s4.free (s5.free hn0)),?_⟩
    rw[Bk.xQ ho]
    refine OL.new hn0 (cN (aJ (fun _ _ z=>aK.mono (s4.trans s5) z) pg) (aJ (fun _ _ z=>aK.mono s5 z) p3))
  ·rintro σ H2 ⟨v4,g,rfl,s3,hgf,og⟩
   rw[hlen,List.take_length] at og
   exact⟨_,rfl,_,_,_,g,rfl,s1.trans s3,s1.free hgf,og⟩
 ·rintro σ H1 ⟨v2,v3,v4,l,rfl,s1,hlf,ol⟩
  exact⟨_,rfl,z l H1 s1 hlf ol⟩
end
end Ord
namespace Ord
open PySem L2 Mx
section
variable {P:Program}{w:World}{K:W.Frag}{mg:Str->Option Value}{base:Heap}{CO:Addr}
def uu (K:W.Frag):Sp:=fun vs H Q _=>∃(a:Addr) (k:Int) (many:Nat),vs=[.ref a,.int k,.int (many:Int)]∧Scr K H a∧1≤many∧many≤4∧∀(r:Addr) (os:Bk.aq) (H':Hp),ar H H'->OL K H' r os->os.Sublist (Bk.eT many)->Q (.ref r) H'
abbrev NSt:List Str:=["_law_script","_law_k","_law_many","_law_some","_law_way","_law_number","_law_share"]
theorem iJ:FnScope NSt ["_law_script","_law_k","_law_many"] (am qQ):={}
theorem qR {L os:Bk.aq}{i:Nat}{o:List Int}(ho:L[i]?=some o) (h:os.Sublist (L.take i)):os.Sublist (L.take (i+1))∧(os++[o]).Sublist (L.take (i+1)):=by
 rw[aR ho]
 exact⟨h.trans (List.sublist_append_left _ _),h.append (List.Sublist.refl _)⟩
theorem DU {i:Int}(h0:0≤i) (h1:i<6):∃c:Int,atI [V.int 0,V.int 0,V.int 1,V.int 3,V.int 6,V.int 4] i=some (.int c):=by
 have:i=0∨i=1∨i=2∨i=3∨i=4∨i=5:=by lia
 rcases this with rfl|rfl|rfl|rfl|rfl|rfl
 ·exact⟨0,rfl⟩
 ·exact⟨0,rfl⟩
 ·exact⟨1,rfl⟩
 ·exact⟨3,rfl⟩
 ·exact⟨6,rfl⟩
 ·exact⟨4,rfl⟩
theorem Bf {f:Addr}{fd:FuncData}(F:Fun K "_law_set" "_law_set" qQ f fd) (T:TxB K mg CO) (WA:Df P w K mg base CX0 1 "_law_all" ["_law_many"] (yt K)) (WM:Df P w K mg base CX0 2 "_law_mix" ["_law_script","_law_k"] (lH K)):FnOk P w K mg base CX0 3 f fd ["_law_script","_law_k","_law_many"] (uu K):=by
 refine F.ok iJ (fun vs H Q E h=>?_) (fun cdv A outer s H vs Q E hr h=>?_)
 ·obtain⟨a,k,many,rfl,_⟩:=h
  rfl
 obtain⟨a,k,many,rfl,hs,m1,m4,z⟩:=h
 refine⟨_,af (ay (i:=3) iJ.nd rfl (Or.inr rfl) (aF WA (hr.mono (by decide)) rfl pS (ac (pv 2) ae)))
  (af (ay (i:=4) iJ.nd rfl (Or.inl rfl) (aA cB (aF WM hr rfl pS (ac (pv 0) (ac (pv 1) ae))) ao))
  (af (ay (i:=5) iJ.nd rfl (Or.inr rfl) (aF WM hr rfl pS (ac (pv 0) (ac (aA ck (pv 1) ao) ae))))
  (af (aQ (aI dz (pv 4) ao (aM _)) (ai (aL (eB rfl (show CScope (am qQ) NSt _ _ from by constructor <;> decide +kernel) (cg (pv 3))
    (fun _ _ _ _ _ _=>lN (aI dz (pxT K (pv 0) (aA cB (pv 6) (pv 3))) (aA cB (aA gJ (pv 6) ao) (pv 3)) (aM _)))
    (fun cl C s₂ H₂ fp aa=>pv 0) iJ.nd))) aB)
  (af (aQ (aI dz (pv 4) ao (aM _)) (ai (aL (bT bA (bH (ac (bH ae) (ac (pv 3) (ac (cG jn (pv 3) cS (cT ao)) (ac (cG jn (pv 3) (cT (sS oz ao)) cS) ae))))) (aA cB (pv 5) ao) (fun _ _=>rfl)))) aB)
  (af (ay (i:=6) iJ.nd rfl (Or.inr rfl) (bT bA (bH (ac ao (ac ao (ac ao (ac ao (ac ao (ac ao ae))))))) (pv 4) (fun _ _=>rfl)))
  (ai (aL (eB rfl (show CScope (am qQ) NSt _ _ from by constructor <;> decide +kernel) (gb rfl T.t.range (ac (aw aN rfl T.t.len bM (ac (pv 3) ae)) ae))
    (fun _ _ _ _ _ _=>lN (aI jl (aA cB (aA gJ (aF WM hr rfl pS (ac (pv 1) (ac (aA ck (aA ck (pv 2) ao) (pv 0)) ae))) ao) ao) (pv 7) (aM _)))
    (fun cl C s₂ H₂ fp aa=>bT (show IxR _ (dJ K) from bA) (pv 4) (pv 0) (fun _ _=>rfl)) iJ.nd)))))))),?_⟩
 refine⟨_,rfl,many,rfl,m1,by lia,fun l H1 s1 hlf ol=>?_⟩
 obtain⟨ys,hl,py⟩:=ol
 have hlen:=py.length
 have len24:=Bk.qK many (Bk.in4 m1 m4)
 refine⟨_,rfl,_,rfl,a,k,rfl,hs.same s1,fun m _ _=>⟨_,_,rfl,rfl,by show(0:Int)<6;decide,?_⟩⟩
 have w0:=Int.emod_nonneg m (show(6:Int)≠0 by decide)
 have w1:=Int.emod_lt_of_pos m (show(0:Int)<6 by decide)
 refine⟨_,rfl,_,rfl,_,_,rfl,rfl,a,_,rfl,hs.same s1,fun num n0 _=>?_⟩
 refine⟨_,rfl,rfl,_,rfl,?_⟩
 refine tu (fun _=>?_) (fun _=>?_)
 ·refine⟨_,rfl,l,rfl,⟨_,SqL.of hl⟩,eW (K:=K) (a:=l) (xs:=ys) (fun i zs H2=>H2=H1∧zs.length≤i∧∃os,Paired (aK.rep K H1) zs os∧os.Sublist ((Bk.eT many).take i)) ⟨rfl,Nat.zero_le _,[],.nil,List.Sublist.refl _⟩ ?_ (by rw[sizeLine_eq];lia) ?_ ?_⟩
  ·rintro i zs H2 _ ⟨rfl,zl,_⟩
   exact⟨SqL.of hl,zl⟩
  ·rintro i y zs H2 hy ⟨rfl,zl,os,po,sub⟩
   obtain⟨o,ho,ro⟩:=bR py hy
   obtain⟨b,rfl,qb⟩:=eu ro
   have lo:=(Bk.kq m1 (by lia) (List.mem_of_getElem? ho)).1
   have p0:=Int.emod_nonneg num (show(many:Int)≠0 by lia)
   have p1:=Int.emod_lt_of_pos num (show(0:Int)<(many:Int) by lia)
   have hlt:(num % (many:Int)).toNat<o.length:=by lia
   obtain⟨t1,t2⟩:=qR ho sub
   refine⟨_,rfl,_,rfl,_,rfl,_,_,rfl,rfl,by show(0:Int)<(many:Int);lia,b,_,_,.int (o[(num % (many:Int)).toNat]'hlt),rfl,rfl,qb,vZ p0 (by rw[List.getElem?_map,List.getElem?_eq_getElem hlt];rfl),?_⟩
   refine⟨_,rfl,_,_,rfl,rfl,⟨by decide,by decide⟩,_,rfl,_,_,rfl,rfl,by show(0:Int)<(many:Int);lia,rfl,_,rfl,?_⟩
   refine tu (fun _=>?_) (fun _=>?_)
   ·exact⟨_,rfl,rfl,by rw[List.length_append];show zs.length+1≤i+1;lia,os++[o],cN po (.cons ro .nil),t2⟩
   ·exact⟨rfl,by lia,os,po,t1⟩
  ·rintro zs H2 p ⟨rfl,_,os,po,sub⟩ hp
   exact z p os _ (s1.trans (ak hp _)) (OL.new hp po) (sub.trans (List.take_sublist _ _))
 refine⟨_,rfl,rfl,_,rfl,?_⟩
 refine tu (fun _=>?_) (fun _=>?_)
 ·refine⟨by show 0≤sizeLine;decide,fun e0 he0=>?_⟩
  have s2:=ak he0 (.lst [])
  refine⟨_,rfl,_,rfl,1,rfl,l,ys,rfl,SqL.of (s2 _ _ hl),fun f0 hf0=>?_⟩
  have s3:=ak hf0 (.lst (cH ys none (some 1)))
  refine⟨_,rfl,1,rfl,-1,rfl,l,ys,rfl,SqL.of (s3 _ _ (s2 _ _ hl)),fun g0 hg0=>?_⟩
  have s4:=ak hg0 (.lst (cH ys (some (-1)) none))
  refine⟨by show 4≤sizeLine;decide,fun h0 hh0=>?_⟩
  have s5:=ak hh0 (.lst [V.ref e0,V.ref l,V.ref f0,V.ref g0])
  have s6:=s2.trans (s3.trans (s4.trans s5))
  have p0:=Int.emod_nonneg num (show(4:Int)≠0 by decide)
  have p1:=Int.emod_lt_of_pos num (show(0:Int)<4 by decide)
  have c1:cH ys none (some 1)=ys.take 1:=zT ys 1
  have e1:OL K (upd (upd (upd (upd H1 e0 (.lst [])) f0 (.lst (cH ys none (some 1)))) g0 (.lst (cH ys (some (-1)) none))) h0 (.lst [V.ref e0,V.ref l,V.ref f0,V.ref g0])) e0 []:=OL.same (s3.trans (s4.trans s5)) ⟨[],ag,.nil⟩
  have e2:=OL.same s6 ⟨ys,hl,py⟩
  have e3:OL K (upd (upd (upd (upd H1 e0 (.lst [])) f0 (.lst (cH ys none (some 1)))) g0 (.lst (cH ys (some (-1)) none))) h0 (.lst [V.ref e0,V.ref l,V.ref f0,V.ref g0])) f0 ((Bk.eT many).take 1):=OL.same (s4.trans s5) ⟨_,ag,by have q:=tJ 1 (aJ (fun _ _ z=>aK.mono (s2.trans s3) z) py);rw[←c1] at q;exact q⟩
  have e4:OL K (upd (upd (upd (upd H1 e0 (.lst [])) f0 (.lst (cH ys none (some 1)))) g0 (.lst (cH ys (some (-1)) none))) h0 (.lst [V.ref e0,V.ref l,V.ref f0,V.ref g0])) g0 ((Bk.eT many).drop (ys.length-1)):=OL.same s5 ⟨_,ag,by have q:=tK (ys.length-1) (aJ (fun _ _ z=>aK.mono (s2.trans (s3.trans s4)) z) py);rw[←vV] at q;exact q⟩
  have cs:num % 4=0∨num % 4=1∨num % 4=2∨num % 4=3:=by lia
  refine⟨_,rfl,_,_,rfl,rfl,by show(0:Int)<4;decide,?_⟩
  show dJ _ (V.ref h0) (V.int (num % 4)) _ _
  rcases cs with c|c|c|c
  ·rw[c]
   exact⟨h0,_,0,V.ref e0,rfl,rfl,SqL.up,rfl,z e0 [] _ (s1.trans s6) e1 (List.nil_sublist _)⟩
  ·rw[c]
   exact⟨h0,_,1,V.ref l,rfl,rfl,SqL.up,rfl,z l _ _ (s1.trans s6) e2 (List.Sublist.refl _)⟩
  ·rw[c]
   exact⟨h0,_,2,V.ref f0,rfl,rfl,SqL.up,rfl,z f0 _ _ (s1.trans s6) e3 (List.take_sublist _ _)⟩
  ·rw[c]
   exact⟨h0,_,3,V.ref g0,rfl,rfl,SqL.up,rfl,z g0 _ _ (s1.trans s6) e4 (List.drop_sublist _ _)⟩
 obtain⟨sh,esh⟩:=DU w0 w1
 refine⟨by show 6≤sizeLine;decide,fun e0 he0=>?_⟩
 have s2:=ak he0 (.lst [V.int 0,V.int 0,V.int 1,V.int 3,V.int 6,V.int 4])
 refine⟨_,rfl,e0,_,_,V.int sh,rfl,rfl,SqL.up,esh,?_⟩
 generalize (upd H1 e0 (.lst [V.int 0,V.int 0,V.int 1,V.int 3,V.int 6,V.int 4]))=H2 at s2 ⊢
 have hl2:=s2 _ _ hl
 refine⟨_,rfl,l,_,rfl,.inl (SqL.of hl2),_,rfl,by lia,by lia,oK (lo:=0) (n:=(((ys.length:Nat):Int)).toNat) (fun i zs H3=>H3=H2∧zs.length≤i∧∃os,Paired (aK.rep K H2) zs os∧os.Sublist ((Bk.eT many).take i)) ⟨rfl,Nat.zero_le _,[],.nil,List.Sublist.refl _⟩ ?_ (by rw[sizeLine_eq];lia) ?_ ?_⟩
 ·rintro i zs H3 _ ⟨_,zl,_⟩
  exact zl
 ·rintro i zs H3 hi ⟨rfl,zl,os,po,sub⟩
  have hi':i<ys.length:=by lia
  obtain⟨o,ho,ro⟩:=bR py (List.getElem?_eq_getElem hi')
  obtain⟨t1,t2⟩:=qR ho sub
  refine⟨_,rfl,_,rfl,_,_,rfl,rfl,_,rfl,_,_,rfl,rfl,a,_,rfl,hs.same (s1.trans s2),fun m2 _ _=>?_⟩
  refine⟨_,_,rfl,rfl,⟨by decide,by decide⟩,_,_,rfl,rfl,by show(0:Int)<8;decide,_,rfl,_,_,rfl,rfl,_,rfl,?_⟩
  refine tu (fun _=>?_) (fun _=>?_)
  ·refine⟨_,rfl,_,rfl,l,ys,_,_,rfl,rfl,SqL.of hl2,?_,rfl,by rw[List.length_append];show zs.length+1≤i+1;lia,os++[o],cN po (.cons (aK.mono s2 ro) .nil),t2⟩
   rw[show(0+(i:Int))=(i:Int) by lia]
   exact br (List.getElem?_eq_getElem hi')
  ·exact⟨rfl,by lia,os,po,t1⟩
 ·rintro zs H3 p ⟨rfl,_,os,po,sub⟩ hp
  exact z p os _ (s1.trans (s2.trans (ak hp _))) (OL.new hp po) (sub.trans (List.take_sublist _ _))
end
end Ord
namespace L2
open PySem PySem.Spec PyProof.Rows
def HS (X:Cx) (R:VK) (st:Stmt) (A B:St->Hp->Prop):Prop:=∃t,PS X st t∧∀(D:Ends) (σ:St) (H:Hp),A σ H->(∀σ' H',B σ' H'->D.nx σ' H')->(∀v H',R v H'->D.rt v H')->t D σ H
def HSs (X:Cx) (R:VK) (sts:List Stmt) (A B:St->Hp->Prop):Prop:=∃t,PSs X sts t∧∀(D:Ends) (σ:St) (H:Hp),A σ H->(∀σ' H',B σ' H'->D.nx σ' H')->(∀v H',R v H'->D.rt v H')->t D σ H
theorem HS.cons {X:Cx}{R:VK}{st:Stmt}{rest:List Stmt}{A B C:St->Hp->Prop}(h1:HS X R st A B) (h2:HSs X R rest B C):HSs X R (st::rest) A C:=by
 obtain⟨t,ht,h⟩:=h1
 obtain⟨u,hu,k⟩:=h2
 exact⟨_,af ht hu,fun D σ H a q r=>h { D with nx:=u D } σ H a (fun σ' H' m=>k D σ' H' m q r) r⟩
end L2
namespace L2
open PySem PySem.Spec PyProof.Rows
section
variable {X:Cx}
end
end L2
namespace Ord
open PySem L2 Mx
abbrev uv:Stmt:=top 47
theorem Aa:bootBuiltins "ValueError"=some (.type "ValueError"):=by decide +kernel
section
variable {P:Program}{w:World}{K:W.Frag}{mg:Str->Option Value}{base:Heap}{CO:Addr}
def Kd (K:W.Frag) (mg:Str->Option Value) (C:Addr) (x:Str) (b:Bool):Prop:=∃D,mg x=some (.ref D)∧W.kitOne K (.ref C) (.ref D)=some b
structure Ref (K:W.Frag) (mg:Str->Option Value) (C:Addr) (b0 b1 b2 b3 b4 b5 b6:Bool) (j:Nat) (word:Str):Prop where
 k0:Kd K mg C "BadBook" b0
 k1:Kd K mg C "BadNumber" b1
 k2:Kd K mg C "BadOrder" b2
 k3:Kd K mg C "BadRule" b3
 k4:Kd K mg C "BadText" b4
 k5:Kd K mg C "BadWeights" b5
 k6:Kd K mg C "Unlike" b6
 ei:ExcI K C
 ve:mg "ValueError"=none
 kv:W.kitOne K (.ref C) (.type "ValueError")=some true
 cnt:[V.bl b0,V.bl b1,V.bl b2,V.bl b3,V.bl b4,V.bl b5,V.bl b6].countP (fun y=>eqV y (.bl true))=1
 at_:[b0,b1,b2,b3,b4,b5,b6][j]?=some true
 bef:∀i,i<j->[b0,b1,b2,b3,b4,b5,b6][i]?=some false
 wd:atI [V.str "book",V.str "number",V.str "order",V.str "rule",V.str "text",V.str "weights",V.str "unlike"] (j:Int)=some (.str word)
def qS (K:W.Frag) (mg:Str->Option Value):Sp:=fun vs H Q _=>(vs=[.non]∧Q (.str "ok") H)∨∃(e C:Addr) (b0 b1 b2 b3 b4 b5 b6:Bool) (j:Nat) (word:Str),vs=[.ref e]∧H e=some (gA e (.ref C))∧Ref K mg C b0 b1 b2 b3 b4 b5 b6 j word∧∀H',ar H H'->Q (.str word) H'
theorem qT:FnScope ["_law_kept","_law_kinds"] ["_law_kept"] (am uv):={}
theorem Ab {f:Addr}{fd:FuncData}(F:Fun K "_law_refusal" "_law_refusal" uv f fd) (T:TxB K mg CO):FnOk P w K mg base CX0 1 f fd ["_law_kept"] (qS K mg):=by
 refine F.ok qT (fun vs H Q E h=>?_) (fun cdv A outer s H vs Q E hr h=>?_)
 ·rcases h with⟨rfl,_⟩|⟨e,C,_,_,_,_,_,_,_,_,_,rfl,_⟩
  ·rfl
  ·rfl
 rcases h with⟨rfl,q⟩|⟨e,C,b0,b1,b2,b3,b4,b5,b6,j,word,rfl,he,R,q⟩
 ·exact⟨_,af (aQ (aI iQ (pv 0) cz (aM _)) (ai (aL aE)) aB) (af bn (af bn (af bn (af bn (ai bn))))),⟨_,rfl,rfl,_,rfl,aG q⟩⟩
 obtain⟨D0,m0,k0⟩:=R.k0
 obtain⟨D1,m1,k1⟩:=R.k1
 obtain⟨D2,m2,k2⟩:=R.k2
 obtain⟨D3,m3,k3⟩:=R.k3
 obtain⟨D4,m4,k4⟩:=R.k4
 obtain⟨D5,m5,k5⟩:=R.k5
 obtain⟨D6,m6,k6⟩:=R.k6
 refine⟨_,af (aQ (aI iQ (pv 0) cz (aM _)) (ai (aL aE)) aB)
  (af (ay (i:=1) qT.nd rfl (Or.inl rfl) (bH
   (ac (aw bG rfl T.t.isi cM (ac (pv 0) (ac (bj (v:=.ref D0) rfl m0 rfl) ae)))
   (ac (aw bG rfl T.t.isi cM (ac (pv 0) (ac (bj (v:=.ref D1) rfl m1 rfl) ae)))
   (ac (aw bG rfl T.t.isi cM (ac (pv 0) (ac (bj (v:=.ref D2) rfl m2 rfl) ae))) ae)))))
  (af (ay (i:=1) qT.nd rfl (Or.inl rfl) (aA kF (pv 1) (bH
   (ac (aw bG rfl T.t.isi cM (ac (pv 0) (ac (bj (v:=.ref D3) rfl m3 rfl) ae)))
   (ac (aw bG rfl T.t.isi cM (ac (pv 0) (ac (bj (v:=.ref D4) rfl m4 rfl) ae)))
   (ac (aw bG rfl T.t.isi cM (ac (pv 0) (ac (bj (v:=.ref D5) rfl m5 rfl) ae))) ae))))))
  (af (bq (bP PySem.F.plainAttrs_list PySem.F.slot_list_append PySem.F.type_list_append de (pv 1) (ac (aw bG rfl T.t.isi cM (ac (pv 0) (ac (bj (v:=.ref D6) rfl m6 rfl) ae))) ae)))
  (af (aQ (PW.pt (fG (aI fm (bP PySem.F.plainAttrs_list PySem.F.slot_list_count PySem.F.type_list_count wP (pv 1) (ac kz ae)) ao (aM _))
    (fN (bV (cA (aw bG rfl T.t.isi cM (ac (pv 0) (ac (eA (v:=.ty "ValueError") rfl R.ve Aa rfl) ae))))))))
   (ai (aL aE)) aB)
  (ai (aL (bT bA (bH (ac aE (ac aE (ac aE (ac aE (ac aE (ac aE (ac aE ae))))))))
   (bP PySem.F.plainAttrs_list PySem.F.slot_list_index PySem.F.type_list_index wQ (pv 1) (ac kz ae)) (fun _ _=>rfl)))))))),?_⟩
 have ty:∀H',ar H H'->TyX K H' (.ref e) (.ref C):=fun H' s1=>.exc (s1 _ _ he) R.ei
 refine⟨_,rfl,rfl,_,rfl,aO ?_⟩
 refine⟨_,rfl,_,_,_,_,_,rfl,rfl,ty H (ar.refl H),k0,?_⟩
 refine⟨_,rfl,_,_,_,_,_,rfl,rfl,ty H (ar.refl H),k1,?_⟩
 refine⟨_,rfl,_,_,_,_,_,rfl,rfl,ty H (ar.refl H),k2,?_⟩
 refine⟨by show 3≤sizeLine;decide,fun l1 n1=>?_⟩
 have s1:=ak n1 (.lst [V.bl b0,V.bl b1,V.bl b2])
 have h1:(upd H l1 (.lst [V.bl b0,V.bl b1,V.bl b2])) l1=some (.lst [V.bl b0,V.bl b1,V.bl b2]):=ag
 generalize (upd H l1 (.lst [V.bl b0,V.bl b1,V.bl b2]))=H1 at s1 h1 ⊢
 refine⟨_,rfl,?_⟩
 refine⟨_,rfl,_,_,_,_,_,rfl,rfl,ty _ s1,k3,?_⟩
 refine⟨_,rfl,_,_,_,_,_,rfl,rfl,ty _ s1,k4,?_⟩
 refine⟨_,rfl,_,_,_,_,_,rfl,rfl,ty _ s1,k5,?_⟩
 refine⟨by show 3≤sizeLine;decide,fun l2 n2=>?_⟩
 have s2:=s1.trans (ak n2 (.lst [V.bl b3,V.bl b4,V.bl b5]))
 have h2:=ak n2 (.lst [V.bl b3,V.bl b4,V.bl b5]) _ _ h1
 have h2':(upd H1 l2 (.lst [V.bl b3,V.bl b4,V.bl b5])) l2=some (.lst [V.bl b3,V.bl b4,V.bl b5]):=ag
 generalize (upd H1 l2 (.lst [V.bl b3,V.bl b4,V.bl b5]))=H2 at s2 h2 h2' ⊢
 refine⟨l1,l2,_,_,rfl,rfl,h2,h2',by show 6≤sizeLine;decide,fun l n3=>?_⟩
 have s3:=s2.trans (ak n3 (.lst [V.bl b0,V.bl b1,V.bl b2,V.bl b3,V.bl b4,V.bl b5]))
 have h3:(upd H2 l (.lst [V.bl b0,V.bl b1,V.bl b2,V.bl b3,V.bl b4,V.bl b5])) l=some (.lst [V.bl b0,V.bl b1,V.bl b2,V.bl b3,V.bl b4,V.bl b5]):=ag
 have hl0:H l=none:=s2.free n3
 have e6:([V.bl b0,V.bl b1,V.bl b2]++[V.bl b3,V.bl b4,V.bl b5])=[V.bl b0,V.bl b1,V.bl b2,V.bl b3,V.bl b4,V.bl b5]:=rfl
 rw[e6]
 generalize (upd H2 l (.lst [V.bl b0,V.bl b1,V.bl b2,V.bl b3,V.bl b4,V.bl b5]))=H3 at s3 h3 ⊢
 refine⟨_,rfl,.inl ⟨rfl,_,SqL.of h3⟩,?_⟩
 refine⟨_,rfl,_,_,_,_,_,rfl,rfl,ty _ s3,k6,?_⟩
 refine⟨l,_,_,rfl,rfl,h3,by show 6<sizeLine;decide,?_⟩
 have e7:([V.bl b0,V.bl b1,V.bl b2,V.bl b3,V.bl b4,V.bl b5]++[V.bl b6])=[V.bl b0,V.bl b1,V.bl b2,V.bl b3,V.bl b4,V.bl b5,V.bl b6]:=rfl
 rw[e7]
 have s4:ar H (upd H3 l (.lst [V.bl b0,V.bl b1,V.bl b2,V.bl b3,V.bl b4,V.bl b5,V.bl b6])):=fun b o qq=>by
  rw[ap (au qq hl0)]
  exact s3 b o qq
 have h4:(upd H3 l (.lst [V.bl b0,V.bl b1,V.bl b2,V.bl b3,V.bl b4,V.bl b5,V.bl b6])) l=some (.lst [V.bl b0,V.bl b1,V.bl b2,V.bl b3,V.bl b4,V.bl b5,V.bl b6]):=ag
 generalize (upd H3 l (.lst [V.bl b0,V.bl b1,V.bl b2,V.bl b3,V.bl b4,V.bl b5,V.bl b6]))=H4 at s4 h4 ⊢
 refine⟨_,rfl,.inl ⟨rfl,_,SqL.of h4⟩,l,_,_,rfl,rfl,SqL.of h4,rfl,rfl,rfl,_,rfl,?_⟩
 rw[R.cnt,decide_eq_true (show V.int ((1:Nat):Int)=V.int 1 from rfl)]
 refine aO ?_
 refine⟨_,rfl,_,_,_,_,_,rfl,rfl,ty _ s4,R.kv,_,rfl,aO ?_⟩
 refine⟨by show 7≤sizeLine;decide,fun l3 n5=>?_⟩
 have s5:=ak n5 (.lst [V.str "book",V.str "number",V.str "order",V.str "rule",V.str "text",V.str "weights",V.str "unlike"])
 have h5:=SqL.of (K:=K) (s5 _ _ h4)
 have bm:∀i:Nat,[V.bl b0,V.bl b1,V.bl b2,V.bl b3,V.bl b4,V.bl b5,V.bl b6][i]?=([b0,b1,b2,b3,b4,b5,b6][i]?).map V.bl:=fun i=>by
  rw[←List.getElem?_map]
  rfl
 refine⟨_,rfl,.inl ⟨rfl,_,h5⟩,l,_,_,j,rfl,rfl,h5,rfl,rfl,⟨.bl true,by rw[bm,R.at_];rfl,rfl⟩,fun i y hi hy=>?_,l3,_,_,_,rfl,rfl,SqL.up,R.wd,q _ (s4.trans s5)⟩
 rw[bm,R.bef i hi] at hy
 cases hy
 rfl
end
structure Tr (K:W.Frag) (mg:Str->Option Value) (CE:Addr):Prop where
 kn:mg "NestError"=some (.ref CE)
 nt:W.instIn K (.ref CE) (.type "tuple")=some false
 xc:W.mroIn K CE (.type "BaseException")=some true
 cl:W.isClsIn K CE=true
end Ord
namespace Ord
open PySem L2 Mx
abbrev bv (i:Nat):Stmt:=(cj gH).getD i (.Pass ⟨0,0,0,0⟩)
abbrev NW:List Str:=["_law_script","_law_many","_law_book","_law_text_here","_law_k","_law_number","_law_at","_law_one","_law_some","_law_kept","_law_found","e","_law_tried_here"]
theorem ce:FnScope NW ["_law_script"] (am gH):={}
abbrev XL (P:Program) (w:World) (K:W.Frag) (mg:Str->Option Value) (base:Heap) (f:Addr) (cdv:Value) (A:Around) (outer:List Env) (s:Shared) (H:Hp) (E:XK):Cx:=(bw CX0 P w K mg base NW "law" (am gH) f cdv A outer s H E).nox
abbrev RT:VK:=fun v _=>v=.bl true
abbrev RM (n:Nat) (A:Around) (s:Shared) (f:Addr) (cdv:Value):Prop:=Room n (A.deeper (PyProof.Rows.envOfC "law" (am gH) s.heap.objs.size f cdv))
theorem ky {z:Str}{m f m' f':Int}{rs rs':List Bk.Room}(h:dX z m rs f) (h':dX z m' rs' f'):m=m'∧rs=rs'∧f=f':=by
 obtain⟨hd,rows,e,p,q⟩:=h
 obtain⟨hd',rows',e',p',q'⟩:=h'
 rw[e] at e'
 cases e'
 have pp:=qw p p'
 exact⟨congrArg Prod.fst pp,pfn (F:=fK) (fun _ _ _ a b=>qx a b) q q',congrArg Prod.snd pp⟩
theorem xV {m f:Int}{rs:List Bk.Room}(few:rs.length<70) (B:BOk m rs f):bO 10 (eR m rs f)=rs.length:=by
 obtain⟨hd,rows,e,_,pr⟩:=qG (mq few B)
 have h:=jj 10 (eR m rs f)
 rw[e,List.length_cons,pr.length] at h
 lia
section
variable {P:Program}{w:World}{K:W.Frag}{mg:Str->Option Value}{base:Heap}{CO CB CT:Addr}{f:Addr}{cdv:Value}{A:Around}{outer:List Env}{s:Shared}{H0:Hp}{E:XK}
def D0 (K:W.Frag):St->Hp->Prop:=fun σ H=>∃a:Addr,σ=[some (.ref a),none,none,none,none,none,none,none,none,none,none,none,none]∧Scr K H a
def D4 (K:W.Frag):St->Hp->Prop:=fun σ H=>∃(a:Addr) (m:Int) (vb:V) (z:Str),σ=[some (.ref a),some (.int m),some vb,some (.str z),none,none,none,none,none,none,none,none,none]∧Scr K H a∧1≤m∧m≤4∧z.length≤8000∧bO 10 z≤41
theorem EV {rest:List Stmt}{B:St->Hp->Prop}(hr:RM 13 A s f cdv) (WM:Df P w K mg base CX0 2 "_law_mix" ["_law_script","_law_k"] (lH K)) (WS:Df P w K mg base CX0 3 "_law_set" ["_law_script","_law_k","_law_many"] (uu K)) (WB:Df P w K mg base (CX1 P w) 12 "book_of" ["many","orders"] (km K)) (WT:Df P w K mg base CX0 1 "_law_text" ["_law_book"] (me K)) (WW:Df P w K mg base (CX1 P w) 12 "written" ["book"] (gr K CB)) (WR:Df P w K mg base (CX1 P w) 12 "read" ["text"] (lv K CT))
  (h:HSs (XL P w K mg base f cdv A outer s H0 E) RT rest (D4 K) B):HSs (XL P w K mg base f cdv A outer s H0 E) RT (bv 0::bv 1::bv 2::bv 3::rest) (D0 K) B:=by
 obtain⟨u,hu,kk⟩:=h
 have hu0:(A.deeper (PyProof.Rows.envOfC "law" (am gH) s.heap.objs.size f cdv)).units+64<cLine:=hr.units
 have hu4:(A.deeper (PyProof.Rows.envOfC "law" (am gH) s.heap.objs.size f cdv)).units+jM.dep<cLine:=by show _+4<cLine;lia
 refine⟨_,af (ay (i:=1) ce.nd rfl (lc rfl) (aA ck ao (aA cB (aF WM (hr.mono (by decide)) rfl pS (ac (pv 0) (ac ao ae))) ao)))
  (af (ay (i:=2) ce.nd rfl (lc rfl) (aF WB (hr.mono (by decide)) rfl kO (ac (pv 1) (ac (aF WS (hr.mono (by decide)) rfl pS (ac (pv 0) (ac ao (ac (pv 1) ae)))) ae))))
  (af (ay (i:=3) ce.nd rfl (lc rfl) (aF WT (hr.mono (by decide)) rfl pS (ac (pv 2) ae)))
  (af (aQ (PW.pt (fG (aI fm (aF WW (hr.mono (by decide)) rfl kO (ac (pv 2) ae)) (pv 3) (aM _)) (fN (aI (AM jM hu4) (aF WR (hr.mono (by decide)) rfl kO (ac (pv 3) ae)) (pv 2) (aM _))))) (ai bn) aB) hu))),fun D σ H b qn qr=>?_⟩
 obtain⟨a,rfl,hs⟩:=b
 refine⟨_,rfl,a,0,rfl,hs,fun m0 h0 h1=>⟨_,_,rfl,rfl,by show(0:Int)<4;decide,_,_,rfl,rfl,?_⟩⟩
 obtain⟨many,hm⟩:∃many:Nat,1+m0 % 4=(many:Int):=⟨(1+m0 % 4).toNat,by lia⟩
 have m1:1≤many:=by lia
 have m4:many≤4:=by lia
 dsimp only
 rw[hm]
 refine⟨_,rfl,_,rfl,_,rfl,a,10,many,rfl,hs,m1,m4,fun r os H1 s1 or sub=>?_⟩
 have S:=Bk.SetOk.of m1 m4 sub
 have l24:=S.len
 obtain⟨ys,hy,py⟩:=or
 refine⟨many,r,ys,os,rfl,SqL.of hy,py,fun o ho=>xR m1 (by lia) (S.mem o ho),m1,by lia,by lia,fun t lr H2 s2 b2=>?_⟩
 have few:=DT S m4
 have bok:=WholeB.bok (SetOk.whole S)
 have sm:=mq (by lia) bok
 have ba:=b2.a
 refine⟨_,rfl,_,_,_,_,rfl,ba,by lia,sm.s,fun H3 s3=>?_⟩
 refine⟨_,rfl,_,_,_,_,rfl,ba.same s3,by lia,fun _=>⟨sm.s,fun H4 s4=>⟨_,rfl,rfl,_,rfl,?_⟩⟩,fun nb=>absurd bok nb⟩
 rw[decide_eq_true rfl]
 have tl:=uo few bok
 have bt:=(qG sm).t
 have tc:=xV (by lia) bok
 refine aO ⟨_,rfl,_,rfl,by lia,by rw[jj];lia,fun m' rs' f' bt' _ x H5 s5 bx=>?_,fun no=>absurd bok (no _ _ _ bt)⟩
 obtain⟨rfl,rfl,rfl⟩:=ky bt' bt
 have s25:=s3.trans (s4.trans s5)
 refine⟨_,rfl,xS many (fh many os),xS many (fh many os),qN bx,qN (ba.same s25),_,rfl,?_⟩
 rw[if_pos rfl,decide_eq_true rfl]
 exact aO (kk D _ _ ⟨a,_,_,_,rfl,hs.same (s1.trans (s2.trans s25)),by lia,by lia,tl,by lia⟩ qn qr)
end
end Ord
namespace Ord
open PySem L2 Mx
theorem Ac {α:Type}{l:List α}(h:l≠[]):∃xs v,l=xs++[v]:=by
 rcases List.eq_nil_or_concat l with e|⟨xs,v,e⟩
 ·exact absurd e h
 ·exact⟨xs,v,by rw[e,List.concat_eq_append]⟩
theorem EW {n:Int}{xs:List V}{p:V->Prop}(e:xs.length=4) (h:∀x∈xs,p x):∃v,atI xs (n % 4)=some v∧p v:=by
 obtain⟨k,hk⟩:∃k:Nat,n % 4=(k:Int):=⟨(n % 4).toNat,by lia⟩
 have kl:k<xs.length:=by lia
 rw[hk]
 exact⟨xs[k],br (List.getElem?_eq_getElem kl),h _ (List.getElem_mem kl)⟩
theorem EX (n:Int):∃c,atI ("0123 :\n97a-":Str).cps.toList (n % 11)=some c:=by
 have e:("0123 :\n97a-":Str).cps.toList.length=11:=by decide +kernel
 obtain⟨k,hk⟩:∃k:Nat,n % 11=(k:Int):=⟨(n % 11).toNat,by lia⟩
 have kl:k<("0123 :\n97a-":Str).cps.toList.length:=by lia
 rw[hk]
 exact⟨_,br (List.getElem?_eq_getElem kl)⟩
section
variable {P:Program}{w:World}{K:W.Frag}{mg:Str->Option Value}{base:Heap}{CO CB CT:Addr}{f:Addr}{cdv:Value}{A:Around}{outer:List Env}{s:Shared}{H0:Hp}{E:XK}
def D5 (K:W.Frag):St->Hp->Prop:=fun σ H=>∃(a:Addr) (m:Int) (vb:V) (z:Str) (v4 v5 v6 v7 v8:Option V),σ=[some (.ref a),some (.int m),some vb,some (.str z),v4,v5,v6,v7,v8,none,none,none,none]∧1≤m∧m≤4∧z.length≤100000∧(Txt.split z (sg 10)).length≤70
theorem EY (hr:RM 13 A s f cdv) (T:TxB K mg CO) (WM:Df P w K mg base CX0 2 "_law_mix" ["_law_script","_law_k"] (lH K)):HS (XL P w K mg base f cdv A outer s H0 E) RT (bv 4) (D4 K) (D5 K):=by
 refine⟨_,cZ PassesOwn.never rfl (gb rfl T.t.range (ac (aA ck ao (aA cB (aF WM (hr.mono (by decide)) rfl pS (ac (pv 0) (ac ao ae))) ao)) ae)) (bQ (i:=4) ce.nd rfl (lc rfl))
  (af (ay (i:=5) ce.nd rfl (lc rfl) (aF WM (hr.mono (by decide)) rfl pS (ac (pv 0) (ac (aA ck ao (pv 4)) ae))))
  (af (ay (i:=6) ce.nd rfl (lc rfl) (aA cB (aA gJ (pv 5) ao) (aA ck (aw eM rfl T.t.len bM (ac (pv 3) ae)) ao)))
  (af (ay (i:=7) ce.nd rfl (lc rfl) (bT (show IxR _ wH from uP) aE (aA cB (aA gJ (pv 5) ao) ao) (fun _ _=>rfl)))
  (af (ay (i:=8) ce.nd rfl (lc rfl) (bH (ac
    (aA bL (aA bL (cG gW (pv 3) cS (cT (pv 6))) (pv 7)) (cG gW (pv 3) (cT (pv 6)) cS))
    (ac (aA bL (aA bL (cG gW (pv 3) cS (cT (pv 6))) (pv 7)) (cG gW (pv 3) (cT (aA ck (pv 6) ao)) cS))
    (ac (aA bL (cG gW (pv 3) cS (cT (pv 6))) (cG gW (pv 3) (cT (aA ck (pv 6) ao)) cS)) ae)))))
  (ai (ay (i:=3) ce.nd rfl (lc rfl) (bT (show IxR _ (dJ K) from bA) (aA kF (pv 8) (bH (ac
    (aA bL (aA bL (pv 3) aE) (bT (show IxR _ (dJ K) from bA) (bP PySem.F.plainAttrs_str PySem.F.slot_str_split PySem.F.type_str_split dw (pv 3) (ac aE ae)) (sS oz ao) (fun _ _=>rfl))) ae))) (aA cB (pv 5) ao) (fun _ _=>rfl)))))))),fun D σ H b qn qr=>?_⟩
 obtain⟨a,m,vb,z,rfl,hs,m1,m4,zl,zc⟩:=b
 refine⟨_,rfl,a,1,rfl,hs,fun m5 h5 h6=>⟨_,_,rfl,rfl,by show(0:Int)<2;decide,_,_,rfl,rfl,_,rfl,by lia,by lia,?_⟩⟩
 have n2:(1+m5 % 2).toNat≤2:=by lia
 refine mx (lo:=0) (n:=(1+m5 % 2).toNat) (fun i σ H1=>∃(z':Str) (v4 v5 v6 v7 v8:Option V),σ=[some (.ref a),some (.int m),some vb,some (.str z'),v4,v5,v6,v7,v8,none,none,none,none]∧ar H H1∧bO 10 z'≤41+i∧z'.length≤(if i=0 then 8000 else if i=1 then 24003 else 72012)) ⟨z,none,none,none,none,none,rfl,ar.refl _,zc,zl⟩ ?_ ?_
 ·rintro i σ H1 hi ⟨z',v4,v5,v6,v7,v8,rfl,s1,c1,l1⟩
  have l1':z'.length≤24003:=by
   rcases(show i=0∨i=1 by lia) with rfl|rfl
   ·exact Nat.le_trans l1 (by decide)
   ·exact l1
  have hz:z'.length≤sizeLine:=by rw[sizeLine_eq];lia
  have step:∀z2,Chg z' z2->bO 10 z2≤41+(i+1)∧z2.length≤(if i+1=0 then 8000 else if i+1=1 then 24003 else 72012):=fun z2 c=>by
   have:=c.c
   have:=c.l
   rcases(show i=0∨i=1 by lia) with rfl|rfl
   ·have l0:z'.length≤8000:=l1
    exact⟨by lia,by show z2.length≤24003;lia⟩
   ·exact⟨by lia,by show z2.length≤72012;lia⟩
  refine⟨_,rfl,_,rfl,_,_,rfl,rfl,a,_,rfl,hs.same s1,fun num n0 n1=>?_⟩
  obtain⟨k,hk⟩:∃k:Nat,num / 8 % ((z'.length:Int)+1)=(k:Int):=⟨(num / 8 % ((z'.length:Int)+1)).toNat,by have:=Int.emod_nonneg (num / 8) (show((z'.length:Int)+1)≠0 by lia);lia⟩
  have kl:k≤z'.length:=by have:=Int.emod_lt_of_pos (num / 8) (show 0<(z'.length:Int)+1 by lia);lia
  refine⟨_,rfl,_,_,rfl,rfl,⟨by decide,by decide⟩,_,rfl,z',rfl,hz,_,_,rfl,rfl,_,_,rfl,rfl,by show 0<(z'.length:Int)+1;lia,?_⟩
  dsimp only
  rw[hk]
  obtain⟨c,hc⟩:=EX (num / 4096)
  have p0:=Txt.slice_le z' none (some (k:Int))
  have p1:=Txt.slice_le z' (some (k:Int)) none
  have p2:=Txt.slice_le z' (some ((k+1:Nat):Int)) none
  have ek:(k:Int)+1=((k+1:Nat):Int):=by lia
  have lo1:(Txt.slice z' none (some (k:Int))).length+(sg c).length≤sizeLine:=by rw[sizeLine_eq];show _+1≤_;lia
  have la:∀{b:Str},b.length≤z'.length->(Txt.slice z' none (some (k:Int))++sg c).length+b.length≤sizeLine:=fun h=>by rw[sizeLine_eq,Str.length_append];show _+1+_≤_;lia
  have lb:(Txt.slice z' none (some (k:Int))).length+(Txt.slice z' (some ((k+1:Nat):Int)) none).length≤sizeLine:=by rw[sizeLine_eq];lia
  refine⟨_,rfl,_,_,rfl,rfl,⟨by decide,by decide⟩,_,_,rfl,rfl,by show(0:Int)<11;decide,_,_,c,rfl,rfl,(by decide +kernel),hc,?_⟩
  refine⟨_,rfl,_,rfl,(k:Int),rfl,z',rfl,hz,_,rfl,_,sg c,rfl,rfl,lo1,_,rfl,_,rfl,(k:Int),rfl,z',rfl,hz,_,_,rfl,rfl,la p1,?_⟩
  refine⟨_,rfl,_,rfl,(k:Int),rfl,z',rfl,hz,_,rfl,_,sg c,rfl,rfl,lo1,_,rfl,_,rfl,_,_,rfl,rfl,(k:Int)+1,rfl,z',rfl,hz,?_⟩
  rw[ek]
  refine⟨_,_,rfl,rfl,la p2,_,rfl,_,rfl,(k:Int),rfl,z',rfl,hz,_,rfl,_,rfl,_,_,rfl,rfl,(k:Int)+1,rfl,z',rfl,hz,?_⟩
  rw[ek]
  refine⟨_,_,rfl,rfl,lb,by show 3≤sizeLine;decide,fun l8 hl8=>?_⟩
  have s8:=ak hl8 (.lst [.str (Txt.slice z' none (some (k:Int))++sg c++Txt.slice z' (some (k:Int)) none),.str (Txt.slice z' none (some (k:Int))++sg c++Txt.slice z' (some ((k+1:Nat):Int)) none),.str (Txt.slice z' none (some (k:Int))++Txt.slice z' (some ((k+1:Nat):Int)) none)])
  have h8:(upd H1 l8 (.lst [.str (Txt.slice z' none (some (k:Int))++sg c++Txt.slice z' (some (k:Int)) none),.str (Txt.slice z' none (some (k:Int))++sg c++Txt.slice z' (some ((k+1:Nat):Int)) none),.str (Txt.slice z' none (some (k:Int))++Txt.slice z' (some ((k+1:Nat):Int)) none)])) l8=some (.lst [.str (Txt.slice z' none (some (k:Int))++sg c++Txt.slice z' (some (k:Int)) none),.str (Txt.slice z' none (some (k:Int))++sg c++Txt.slice z' (some ((k+1:Nat):Int)) none),.str (Txt.slice z' none (some (k:Int))++Txt.slice z' (some ((k+1:Nat):Int)) none)]):=ag
  have g1:=Bb (d:=c) kl
  have g2:=zW (d:=c) kl
  have g3:=zX kl
  generalize (Txt.slice z' none (some (k:Int))++sg c++Txt.slice z' (some (k:Int)) none)=t1 at s8 h8 g1 ⊢
  generalize (Txt.slice z' none (some (k:Int))++sg c++Txt.slice z' (some ((k+1:Nat):Int)) none)=t2 at s8 h8 g2 ⊢
  generalize (Txt.slice z' none (some (k:Int))++Txt.slice z' (some ((k+1:Nat):Int)) none)=t3 at s8 h8 g3 ⊢
  generalize (upd H1 l8 (.lst [.str t1,.str t2,.str t3]))=H8 at s8 h8 ⊢
  obtain⟨xs,lastr,el⟩:=Ac (l:=Txt.split z' (sg 10)) (by
   have:=PyProof.Rows.split_pos z' (sg 10)
   intro e
   rw[e] at this
   exact absurd this (by decide))
  have lm:lastr∈Txt.split z' (sg 10):=by rw[el];exact List.mem_append_right _ (List.mem_singleton.mpr rfl)
  have g4:=zY lm
  have ll:=PyProof.Rows.part_short lm
  have e10:[V.str "\n"]=[V.str (sg 10)]:=congrArg (fun x=>[V.str x]) fE
  have l01:z'.length+("\n":Str).length≤sizeLine:=by rw[fE,sizeLine_eq];show _+1≤_;lia
  have l02:(z'++("\n":Str)).length+lastr.length≤sizeLine:=by rw[fE,sizeLine_eq,Str.length_append];show _+1+_≤_;lia
  have hat:atI ((Txt.split z' (sg 10)).map V.str) (-1)=some (.str lastr):=by rw[el,List.map_append];exact wG _ _
  refine⟨_,rfl,_,rfl,z',_,rfl,rfl,l01,_,rfl,rfl,z',sg 10,rfl,e10,rfl,by rw[sizeLine_eq];lia,fun l9 hl9=>?_⟩
  have s9:=ak hl9 (.lst ((Txt.split z' (sg 10)).map V.str))
  refine⟨1,rfl,l9,_,-1,_,rfl,rfl,SqL.of ag,hat,_,_,rfl,rfl,l02,by show 1≤sizeLine;decide,fun l10 hl10=>?_⟩
  rw[fE]
  generalize (z'++sg 10++lastr)=t4 at g4 hl10 ⊢
  have s10:=ak hl10 (.lst [.str t4])
  refine⟨l8,l10,_,_,rfl,rfl,s10 _ _ (s9 _ _ h8),ag,by show 4≤sizeLine;decide,fun l11 hl11=>?_⟩
  have s11:=ak hl11 (.lst ([V.str t1,.str t2,.str t3]++[V.str t4]))
  obtain⟨v,hv,t,rfl,gt⟩:=EW (n:=num) (p:=fun v=>∃t,v=V.str t∧Chg z' t) (show([V.str t1,.str t2,.str t3]++[V.str t4]).length=4 from rfl) fun x hx=>by
   rcases List.mem_append.mp hx with hx|hx
   ·rcases List.mem_cons.mp hx with rfl|hx
    ·exact⟨_,rfl,g1⟩
    rcases List.mem_cons.mp hx with rfl|hx
    ·exact⟨_,rfl,g2⟩
    rw[List.mem_singleton.mp hx]
    exact⟨_,rfl,g3⟩
   ·rw[List.mem_singleton.mp hx]
    exact⟨_,rfl,g4⟩
  obtain⟨q1,q2⟩:=step t gt
  exact⟨_,rfl,_,_,rfl,rfl,by show(0:Int)<4;decide,l11,_,_,_,rfl,rfl,SqL.of ag,hv,t,_,_,_,_,_,rfl,s1.trans (s8.trans (s9.trans (s10.trans s11))),q1,q2⟩
 ·rintro σ H1 ⟨z',v4,v5,v6,v7,v8,rfl,s1,c1,l1⟩
  have l1':z'.length≤72012:=by
   rcases(show(1+m5 % 2).toNat=0∨(1+m5 % 2).toNat=1∨(1+m5 % 2).toNat=2 by lia) with q|q|q <;> rw[q] at l1 <;> exact Nat.le_trans l1 (by decide)
  refine qn _ _ ⟨a,m,vb,z',v4,v5,v6,v7,v8,rfl,m1,m4,by lia,by rw[jj];lia⟩
end
end Ord
namespace Ord
open PySem L2 Mx
theorem nO {K:W.Frag}{H:Hp}{x:V}{many:Int}{rs:List Bk.Room}{first:Int}(h:BookA K H x many rs first):jM.rep K H x (many,rs.map enc,first):=by
 obtain⟨b,l,xs,e,q,ql,pr⟩:=h.ex
 exact⟨b,_,_,_,e,q,rfl,⟨l,xs,rfl,ql,gn pr⟩,rfl⟩
theorem Bg {m:Int}:¬BOk m [] 1:=fun h=>by
 rcases h.fst with h|⟨h,_⟩ <;> lia
theorem dX.few {z:Str}{m f:Int}{rs:List Bk.Room}(h:dX z m rs f) (l:(Txt.split z (sg 10)).length≤70):rs.length<70:=by
 obtain⟨hd,rows,e,_,q⟩:=h
 rw[e,List.length_cons] at l
 rw[←q.length]
 lia
section
variable {P:Program}{w:World}{K:W.Frag}{mg:Str->Option Value}{base:Heap}{CO CB CT CE:Addr}{f:Addr}{cdv:Value}{A:Around}{outer:List Env}{s:Shared}{H0:Hp}{E:XK}
def D8 (K:W.Frag) (CT:Addr):St->Hp->Prop:=fun σ H=>∃(a:Addr) (m:Int) (vb:V) (z:Str) (v4 v5 v6 v7 v8:Option V) (k fo:V),σ=[some (.ref a),some (.int m),some vb,some (.str z),v4,v5,v6,v7,v8,some k,some fo,none,none]∧1≤m∧m≤4∧z.length≤100000∧(Txt.split z (sg 10)).length≤70∧
 ((k=.non∧∃m' rs f',dX z m' rs f'∧BOk m' rs f'∧BookA K H fo m' rs f')∨((∀m' rs f',dX z m' rs f'->¬BOk m' rs f')∧∃e:Addr,k=.ref e∧H e=some (gA e (.ref CT))))
theorem EZ {rest:List Stmt}{B:St->Hp->Prop}(hr:RM 13 A s f cdv) (E0:Tr K mg CE) (onT:W.mroIn K CT (.ref CE)=some true) (WR:Df P w K mg base (CX1 P w) 12 "read" ["text"] (lv K CT))
  (h:HSs (XL P w K mg base f cdv A outer s H0 E) RT rest (D8 K CT) B):HSs (XL P w K mg base f cdv A outer s H0 E) RT (bv 5::bv 6::bv 7::rest) (D5 K) B:=by
 obtain⟨u,hu,kk⟩:=h
 refine⟨_,af (ay (i:=9) ce.nd rfl (lc rfl) cz)
  (af (ay (i:=10) ce.nd rfl (lc rfl) cz)
  (af (oP rfl rfl rfl rfl rfl E0.kn E0.nt E0.xc E0.cl ce.nd (ie:=11) rfl rfl
   (fun pn' xe' E' hp'=>ai (ay (i:=10) ce.nd rfl (lc rfl) (aF WR (hr.mono (by decide)) rfl hp' (ac (pv 3) ae))))
   (fun A' pn' xe'=>ai (ay (i:=9) ce.nd rfl (lc rfl) (pv 11)))) hu)),fun D σ H b qn qr=>?_⟩
 obtain⟨a,m,vb,z,v4,v5,v6,v7,v8,rfl,m1,m4,zl,zr⟩:=b
 refine⟨_,rfl,z,rfl,zl,zr,fun m' rs f' bt bok x H1 s1 bx=>?_,fun no n H1 s1=>⟨CT,rfl,onT,fun e he=>⟨_,rfl,?_⟩⟩⟩
 ·exact kk D _ _ ⟨a,m,vb,z,v4,v5,v6,v7,v8,_,_,rfl,m1,m4,zl,zr,.inl ⟨rfl,m',rs,f',bt,bok,bx⟩⟩ qn qr
 ·exact kk D _ _ ⟨a,m,vb,z,v4,v5,v6,v7,v8,_,_,rfl,m1,m4,zl,zr,.inr ⟨no,e,rfl,ag⟩⟩ qn qr
def D10 (K:W.Frag) (CT:Addr):St->Hp->Prop:=fun σ H=>∃(a:Addr) (m:Int) (vb:V) (z:Str) (v4 v5 v6 v7 v8:Option V) (e:Addr) (fo vt:V),σ=[some (.ref a),some (.int m),some vb,some (.str z),v4,v5,v6,v7,v8,some (.ref e),some fo,none,some vt]∧1≤m∧m≤4∧H e=some (gA e (.ref CT))
theorem E1 {rest:List Stmt}{B:St->Hp->Prop}(hr:RM 13 A s f cdv) (WL:Df P w K mg base CX0 2 "_law_tried" ["_law_text_here"] (j9 K)) (WI:Df P w K mg base (CX1 P w) 12 "_law_is_book" ["_law_tried_here"] (qC K))
  (h:HSs (XL P w K mg base f cdv A outer s H0 E) RT rest (D10 K CT) B):HSs (XL P w K mg base f cdv A outer s H0 E) RT (bv 8::bv 9::rest) (D8 K CT) B:=by
 obtain⟨u,hu,kk⟩:=h
 have hu0:(A.deeper (PyProof.Rows.envOfC "law" (am gH) s.heap.objs.size f cdv)).units+64<cLine:=hr.units
 have hu4:(A.deeper (PyProof.Rows.envOfC "law" (am gH) s.heap.objs.size f cdv)).units+jM.dep<cLine:=by show _+4<cLine;lia
 refine⟨_,af (ay (i:=12) ce.nd rfl (lc rfl) (aF WL (hr.mono (by decide)) rfl pS (ac (pv 3) ae)))
  (af (aQ (PW.pt (uC (aI rH (pv 12) cz (aM _)) (rC (cA (aF WI (hr.mono (by decide)) rfl kO (ac (pv 12) ae))))))
   (ai (aL (fO (dA iQ (pv 9) cz (aM _)) (iP (dA (AL jM hu4) (pv 10) (pv 12) (aM _)))))) aB) hu),fun D σ H b qn qr=>?_⟩
 obtain⟨a,m,vb,z,v4,v5,v6,v7,v8,k,fo,rfl,m1,m4,zl,zr,h⟩:=b
 refine⟨_,rfl,z,rfl,zl,zr,fun m' rs f' bl x H1 s1 bx=>?_,fun no H1 s1=>?_⟩
 ·obtain⟨bb,l,xs,rfl,_⟩:=bx.ex
  refine⟨_,rfl,rfl,_,rfl,?_⟩
  have few:=bl.t.few zr
  refine aG ⟨_,rfl,_,m',rs,f',rfl,bx,few,fun bok H2 s2=>⟨_,rfl,?_⟩,fun nb H2 s2=>⟨_,rfl,?_⟩⟩
  ·refine aG ?_
   rcases h with⟨rfl,m2,rs2,f2,bt,_,bf⟩|⟨no,_⟩
   ·obtain⟨rfl,rfl,rfl⟩:=ky bl.t bt
    refine⟨_,rfl,rfl,_,rfl,aG ⟨_,rfl,_,rfl,_,_,nO (bf.same (s1.trans s2)),nO (bx.same s2),qr _ _ (congrArg V.bl (decide_eq_true rfl))⟩⟩
   ·exact absurd bok (no _ _ _ bl.t)
  ·refine aO ?_
   rcases h with⟨rfl,m2,rs2,f2,bt,bok,bf⟩|⟨_,e,rfl,he⟩
   ·obtain⟨rfl,rfl,rfl⟩:=ky bl.t bt
    exact absurd bok nb
   ·exact kk D _ _ ⟨a,m,vb,z,v4,v5,v6,v7,v8,e,_,_,rfl,m1,m4,s2 _ _ (s1 _ _ he)⟩ qn qr
 ·rcases h with⟨rfl,m2,rs2,f2,bt,bok,bf⟩|⟨_,e,rfl,he⟩
  ·exact absurd (bt.l (bt.few zr) bok) (no _ _ _)
  refine⟨_,rfl,rfl,_,rfl,aO ?_⟩
  exact kk D _ _ ⟨a,m,vb,z,v4,v5,v6,v7,v8,e,_,_,rfl,m1,m4,s1 _ _ he⟩ qn qr
abbrev xW (K:W.Frag) (mg:Str->Option Value) (CT:Addr):Prop:=Ref K mg CT false false false false true false false 4 "text"
abbrev xX (K:W.Frag) (mg:Str->Option Value) (CB:Addr):Prop:=Ref K mg CB true false false false false false false 0 "book"
theorem DV {B:St->Hp->Prop}(hr:RM 13 A s f cdv) (E0:Tr K mg CE) (onB:W.mroIn K CB (.ref CE)=some true) (RfT:xW K mg CT) (RfB:xX K mg CB) (WF:Df P w K mg base CX0 1 "_law_refusal" ["_law_kept"] (qS K mg)) (WW:Df P w K mg base (CX1 P w) 12 "written" ["book"] (gr K CB)) :
  HSs (XL P w K mg base f cdv A outer s H0 E) RT [bv 10,bv 11,bv 12,bv 13] (D10 K CT) B:=by
 refine⟨_,af (aQ (aI fm (aF WF (hr.mono (by decide)) rfl pS (ac (pv 9) ae)) aE (aM _)) (ai bn) aB)
  (af (ay (i:=9) ce.nd rfl (lc rfl) cz)
  (af (oP rfl rfl rfl rfl rfl E0.kn E0.nt E0.xc E0.cl ce.nd (ie:=11) rfl rfl
   (fun pn' xe' E' hp'=>ai (bq (aF WW (hr.mono (by decide)) rfl hp' (ac (eK (ac (pv 1) (ac (bH ae) (ac ao ae)))) ae))))
   (fun A' pn' xe'=>ai (ay (i:=9) ce.nd rfl (lc rfl) (pv 11))))
  (ai (aL (dA dz (aF WF (hr.mono (by decide)) rfl pS (ac (pv 9) ae)) aE (aM _)))))),fun D σ H b qn qr=>?_⟩
 obtain⟨a,m,vb,z,v4,v5,v6,v7,v8,e,fo,vt,rfl,m1,m4,he⟩:=b
 refine⟨_,rfl,.inr ⟨e,CT,false,false,false,false,true,false,false,4,"text",rfl,he,RfT,fun H1 s1=>⟨rfl,_,rfl,?_⟩⟩⟩
 rw[decide_eq_true rfl]
 refine aO ⟨_,rfl,by show 0≤sizeLine;decide,fun l1 hl1=>⟨by show 3≤sizeLine;decide,fun t1 ht1=>?_⟩⟩
 refine⟨_,m,[],1,rfl,⟨t1,l1,[],rfl,SqT.of ag,SqL.of (ak ht1 _ _ _ ag),.nil⟩,by decide,fun bok=>absurd bok Bg,fun _ H2 s2=>⟨CB,rfl,onB,fun e2 he2=>⟨_,rfl,?_⟩⟩⟩
 exact⟨_,rfl,.inr ⟨e2,CB,true,false,false,false,false,false,false,0,"book",rfl,ag,RfB,fun H3 s3=>⟨rfl,qr _ _ (congrArg V.bl (decide_eq_true rfl))⟩⟩⟩
def ou (K:W.Frag):Sp:=fun vs H Q _=>∃(a:Addr) (ns:List Int),vs=[.ref a]∧SqL K H a (ns.map V.int)∧∀H',Q (.bl true) H'
theorem Bh {fd:FuncData}(F:Fun K "law" "law" gH f fd) (T:TxB K mg CO) (E0:Tr K mg CE) (onT:W.mroIn K CT (.ref CE)=some true) (onB:W.mroIn K CB (.ref CE)=some true) (RfT:xW K mg CT) (RfB:xX K mg CB)
  (WM:Df P w K mg base CX0 2 "_law_mix" ["_law_script","_law_k"] (lH K)) (WS:Df P w K mg base CX0 3 "_law_set" ["_law_script","_law_k","_law_many"] (uu K)) (WB:Df P w K mg base (CX1 P w) 12 "book_of" ["many","orders"] (km K)) (WT:Df P w K mg base CX0 1 "_law_text" ["_law_book"] (me K)) (WW:Df P w K mg base (CX1 P w) 12 "written" ["book"] (gr K CB)) (WR:Df P w K mg base (CX1 P w) 12 "read" ["text"] (lv K CT))
  (WL:Df P w K mg base CX0 2 "_law_tried" ["_law_text_here"] (j9 K)) (WI:Df P w K mg base (CX1 P w) 12 "_law_is_book" ["_law_tried_here"] (qC K)) (WF:Df P w K mg base CX0 1 "_law_refusal" ["_law_kept"] (qS K mg)):FnOk P w K mg base CX0 14 f fd ["_law_script"] (ou K):=by
 refine F.ok ce (fun vs H Q E h=>?_) (fun cdv A outer s H vs Q E hr h=>?_)
 ·obtain⟨a,ns,rfl,_⟩:=h
  rfl
 obtain⟨a,ns,rfl,hs,q⟩:=h
 have all:HSs (XL P w K mg base f cdv A outer s H E) RT [bv 0,bv 1,bv 2,bv 3,bv 4,bv 5,bv 6,bv 7,bv 8,bv 9,bv 10,bv 11,bv 12,bv 13] (D0 K) (fun _ _=>False):=
  EV hr WM WS WB WT WW WR<|(EY hr T WM).cons<|EZ hr E0 onT WR<|E1 hr WL WI<|DV hr E0 onB RfT RfB WF WW
 obtain⟨t,ht,k⟩:=all
 refine⟨t,ht,k _ _ _ ⟨a,rfl,⟨ns,hs⟩⟩ (fun _ _ z=>z.elim) fun v H' e=>?_⟩
 subst e
 exact q H'
end
end Ord
set_option maxHeartbeats 0
namespace Vw
open PySem PySem.W L2
noncomputable section
abbrev pw:Program:=PySem.Challenge.pw_ordernest_k60_texts
def at_ (i:Nat):Stmt:=pw.main.body.getD i (.Pass ⟨0,0,0,0⟩)
def s0:Stmt:=at_ 0
def s1:Stmt:=at_ 1
def s2:Stmt:=at_ 2
def s3:Stmt:=at_ 3
def s4:Stmt:=at_ 4
def s5:Stmt:=at_ 5
def s6:Stmt:=at_ 6
def s7:Stmt:=at_ 7
def s8:Stmt:=at_ 8
def s9:Stmt:=at_ 9
def s10:Stmt:=at_ 10
def s11:Stmt:=at_ 11
def s12:Stmt:=at_ 12
def s13:Stmt:=at_ 13
def s14:Stmt:=at_ 14
def s15:Stmt:=at_ 15
def s16:Stmt:=at_ 16
def s17:Stmt:=at_ 17
def s18:Stmt:=at_ 18
def s19:Stmt:=at_ 19
def s20:Stmt:=at_ 20
def s21:Stmt:=at_ 21
def s22:Stmt:=at_ 22
def s23:Stmt:=at_ 23
def s24:Stmt:=at_ 24
def s25:Stmt:=at_ 25
def s26:Stmt:=at_ 26
def s27:Stmt:=at_ 27
def s28:Stmt:=at_ 28
def s29:Stmt:=at_ 29
def s30:Stmt:=at_ 30
def s31:Stmt:=at_ 31
def s32:Stmt:=at_ 32
def s33:Stmt:=at_ 33
def s34:Stmt:=at_ 34
def s35:Stmt:=at_ 35
def s36:Stmt:=at_ 36
def s37:Stmt:=at_ 37
def s38:Stmt:=at_ 38
def s39:Stmt:=at_ 39
def s40:Stmt:=at_ 40
def s41:Stmt:=at_ 41
def s42:Stmt:=at_ 42
def s43:Stmt:=at_ 43
def s44:Stmt:=at_ 44
def s45:Stmt:=at_ 45
def s46:Stmt:=at_ 46
def s47:Stmt:=at_ 47
def s48:Stmt:=at_ 48
def s49:Stmt:=at_ 49
def s50:Stmt:=at_ 50
def s51:Stmt:=at_ 51
def s52:Stmt:=at_ 52
def dk (P:Params) (x:Str) (t:Nat) (v:Value):DictEntry:=⟨PyData.keyHash P x,.str x t,v⟩
def kf (x q:Str) (s:Stmt) (kV doc pm cdv ct:Value):Obj:=⟨.type "function",none,.func (fnOf x q (cU s) (cj s) (am s) .none kV doc pm none cdv ct),#[]⟩
def kg (c:Value) (x q:Str) (s:Stmt) (g:Nat) (dV kV doc pm cdv ct:Value):Obj:=⟨c,none,.func { name:=x,qualname:=q,params:=cU s,body:=.stmts (cj s),scope:=am s,globals:=g,closure:=[],defaults:=dV,kwdefaults:=kV,doc:=doc,pyModule:=pm,code:=cdv,closureTuple:=ct },#[]⟩
def kj (c:Value) (d:Data):Obj:=⟨c,none,d,#[]⟩
def kt (l:List Value):Obj:=⟨.type "tuple",none,.seq ⟨l⟩ 0,#[]⟩
def ow (s:Stmt) (i:Nat):Stmt:=match s with
 | .ClassDef _ _ _ b _ _ _ _ _ _ _=>b.getD i (.Pass ⟨0,0,0,0⟩)
 | s=>s
def r (a:Nat):Value:=.ref a
def i (a:Int) (t:Nat):Value:=.int a t
def z (x:Str) (t:Nat):Value:=.str x t
def kc (x q:Str) (a b c l n f r1 r2 r3 r4 r5 t m u:Nat):Obj:=kj (.type "code") (.fields #[z x a,z q b,z "/claim/cut.py" c,i l 0,i n 0,i 0 0,i 0 0,i f 0,r r1,.bool true,i 181 0,r r2,.none,r r3,r r4,r r5,i t 0,i m 0,z "/claim/cut.py" u])
variable (P:Params)
def lt (n a:Nat):List Value:=[i n 0,i 0 0,r a]
def kl (l:List Value):Obj:=kj .none (.fields ⟨l⟩)
def zz0:=z "ordernest.errors" 187
def zz1:=z "ordernest.books" 350
def zz2:=z "law_ordernest_k60_texts" 556
def zz3:=z "NestError" 197
def zz4:=z "NestError" 189
def zz5:=z "ordernest.texts" 502
def zz6:=z "ordernest.orders" 319
def o11:Obj:=kt []
def o12:Obj:=kj .none (.fields #[])
def kk0 (a:Str)(b:Nat)(c:Nat)(d:Nat):Obj:=kj (.type "code") (.fields #[z a b,z a (b+1),z "/claim/cut.py" (b+2),i c 0,i 0 0,i 0 0,i 0 0,i 0 0,r d,.bool false,i 181 0,r (d+1),.none,.none,.none,.none,i (b+3) 0,i c 0,z "/claim/cut.py" (b+4)])
def o13:Obj:=kk0 "<module>" 182 1 11
def o14:Obj:=⟨(.type "frame"),none,.plain,#[(some (r 13)),(some (r 3)),(some (r 3)),none,(some (z "__main__" 164)),none,(some (r 0))]⟩
def eo3:List DictEntry:=[dk P "__doc__" 166 .none,dk P "__package__" 167 .none,dk P "__loader__" 168 (.builtin "__main__.__loader__#opaque"),dk P "__spec__" 169 .none,dk P "__annotations__" 170 (r 6),dk P "__builtins__" 171 (r 4),dk P "__file__" 173 (z "/claim/cut.py" 172),dk P "__cached__" 174 .none,dk P "NestError" 206 (r 24)]
def o3:Obj:=kj (.type "dict") (.dict ⟨dk P "__name__" 165 zz0::eo3 P⟩ 10)
def wb:=lt 2 20
def DW:Obj:=kl wb
def o15:Obj:=kt [.type "ValueError"]
def o16:Obj:=kj (.type "builtin_function_or_method") (.fields #[.builtin "type.__prepare__",.type "type"])
def o17:Obj:=kj (.type "dict") (.dict #[dk P "__module__" 196 zz0,dk P "__qualname__" 198 zz3,dk P "__firstlineno__" 200 (i 2 199),dk P "__static_attributes__" 201 (r 22)] 4)
def o20:Obj:=kk0 "NestError" 191 2 18
def kk1 (a:Nat)(b:Value):Obj:=⟨(.type "frame"),none,.plain,#[(some (r a)),(some (r 3)),(some (r (a-3))),none,(some b),none,(some (r 0))]⟩
def o21:Obj:=kk1 20 zz0
def o23:Obj:=kj (.type "dict") (.dict #[dk P "__module__" 196 zz0,dk P "__firstlineno__" 200 (i 2 199),dk P "__static_attributes__" 201 (r 22),dk P "__weakref__" 203 (r 25),dk P "__doc__" 204 .none] 3)
def kk2 (a:List Value):Obj:=⟨(.type "type"),none,.cls { name:="NestError",bases:=[.type "ValueError"],mro:=[r 24,.type "ValueError",.type "Exception",.type "BaseException",.type "object"],ns:=23,qualname:="NestError",subclasses:=a },#[(some (r 15)),none,(some zz4),(some zz3),(some (.builtin "ValueError.__new__")),(some (.bool true))]⟩
def o24:Obj:=kk2 []
def kk3 (a:Nat)(b:Nat):Obj:=kj (.type "getset_descriptor") (.fields #[z "__weakref__" a,r b,.builtin "ExceptionGroup.__weakref__",.none])
def o25:Obj:=kk3 202 24
def kk4 (a:Nat):Obj:=kj (.type "super") (.fields #[r a,r a,r a])
def o26:Obj:=kk4 24
def kk5 (a:Nat):Obj:=kj (.type "builtin_function_or_method") (.fields #[.builtin "object.__init_subclass__",r a])
def o27:Obj:=kk5 24
def yu:List DictEntry:=eo3 P++[dk P "BadOrder" 222 (r 37)]
def E2:Obj:=kj (.type "dict") (.dict ⟨dk P "__name__" 165 zz0::yu P⟩ 11)
def wc:=wb++lt 4 33
def DX:Obj:=kl wc
def DY:Obj:=kk2 [r 37]
def o28:Obj:=kt [r 24]
def kk6 (a:Nat)(b:Str)(c:Nat)(d:Nat):Obj:=kj (.type "dict") (.dict #[dk P "__module__" a zz0,dk P "__qualname__" (a+2) (z b (a+1)),dk P "__firstlineno__" (a+4) (i c (a+3)),dk P "__static_attributes__" (a+5) (r d)] 4)
def o30:Obj:=kk6 P 214 "BadOrder" 4 35
def o31:Obj:=kt []
def o32:Obj:=kj .none (.fields #[])
def o33:Obj:=kk0 "BadOrder" 209 4 31
def o34:Obj:=kk1 33 zz0
def o35:Obj:=kt []
def kk7 (a:Nat)(b:Nat)(c:Nat):Obj:=kj (.type "dict") (.dict #[dk P "__module__" a zz0,dk P "__firstlineno__" (a+4) (i b (a+3)),dk P "__static_attributes__" (a+5) (r c),dk P "__doc__" (a+6) .none] 2)
def o36:Obj:=kk7 P 214 4 35
def kk8 (a:Str)(b:Nat)(c:Nat):Obj:=⟨(.type "type"),none,.cls { name:=a,bases:=[r 24],mro:=[r b,r 24,.type "ValueError",.type "Exception",.type "BaseException",.type "object"],ns:=(b-1),qualname:=a,subclasses:=[] },#[(some (r (b-9))),none,(some (z a c)),(some (z a (c+8))),(some (.builtin "ValueError.__new__")),(some (.bool true))]⟩
def o37:Obj:=kk8 "BadOrder" 37 207
def o38:Obj:=kk4 37
def o39:Obj:=kk5 37
def yw:List DictEntry:=yu P++[dk P "BadBook" 238 (r 49)]
def E3:Obj:=kj (.type "dict") (.dict ⟨dk P "__name__" 165 zz0::yw P⟩ 12)
def we:=wc++lt 6 45
def DZ:Obj:=kl we
def D7:Obj:=kk2 [r 37,r 49]
def o42:Obj:=kk6 P 230 "BadBook" 6 47
def o45:Obj:=kk0 "BadBook" 225 6 43
def o46:Obj:=kk1 45 zz0
def o48:Obj:=kk7 P 230 6 47
def o49:Obj:=kk8 "BadBook" 49 223
def o50:Obj:=kk4 49
def o51:Obj:=kk5 49
def yx:List DictEntry:=yw P++[dk P "Unlike" 254 (r 61)]
def E4:Obj:=kj (.type "dict") (.dict ⟨dk P "__name__" 165 zz0::yx P⟩ 13)
def wg:=we++lt 8 57
def D9:Obj:=kl wg
def Ea:Obj:=kk2 [r 37,r 49,r 61]
def o54:Obj:=kk6 P 246 "Unlike" 8 59
def o57:Obj:=kk0 "Unlike" 241 8 55
def o58:Obj:=kk1 57 zz0
def o60:Obj:=kk7 P 246 8 59
def o61:Obj:=kk8 "Unlike" 61 239
def o62:Obj:=kk4 61
def o63:Obj:=kk5 61
def yz:List DictEntry:=yx P++[dk P "BadRule" 270 (r 73)]
def E5:Obj:=kj (.type "dict") (.dict ⟨dk P "__name__" 165 zz0::yz P⟩ 14)
def wj:=wg++lt 10 69
def Eb:Obj:=kl wj
def Ec:Obj:=kk2 [r 37,r 49,r 61,r 73]
def o66:Obj:=kk6 P 262 "BadRule" 10 71
def o69:Obj:=kk0 "BadRule" 257 10 67
def o70:Obj:=kk1 69 zz0
def o72:Obj:=kk7 P 262 10 71
def o73:Obj:=kk8 "BadRule" 73 255
def o74:Obj:=kk4 73
def o75:Obj:=kk5 73
def yA:List DictEntry:=yz P++[dk P "BadNumber" 286 (r 85)]
def E6:Obj:=kj (.type "dict") (.dict ⟨dk P "__name__" 165 zz0::yA P⟩ 15)
def wk:=wj++lt 12 81
def Ed:Obj:=kl wk
def Ee:Obj:=kk2 [r 37,r 49,r 61,r 73,r 85]
def o78:Obj:=kk6 P 278 "BadNumber" 12 83
def o81:Obj:=kk0 "BadNumber" 273 12 79
def o82:Obj:=kk1 81 zz0
def o84:Obj:=kk7 P 278 12 83
def o85:Obj:=kk8 "BadNumber" 85 271
def o86:Obj:=kk4 85
def o87:Obj:=kk5 85
def yB:List DictEntry:=yA P++[dk P "BadWeights" 302 (r 97)]
def E7:Obj:=kj (.type "dict") (.dict ⟨dk P "__name__" 165 zz0::yB P⟩ 16)
def wm:=wk++lt 14 93
def Ef:Obj:=kl wm
def Eg:Obj:=kk2 [r 37,r 49,r 61,r 73,r 85,r 97]
def o90:Obj:=kk6 P 294 "BadWeights" 14 95
def o93:Obj:=kk0 "BadWeights" 289 14 91
def o94:Obj:=kk1 93 zz0
def o96:Obj:=kk7 P 294 14 95
def o97:Obj:=kk8 "BadWeights" 97 287
def o98:Obj:=kk4 97
def o99:Obj:=kk5 97
def yC:List DictEntry:=yB P++[dk P "BadText" 318 (r 109),dk P "MOST_THINGS" 322 (i 8 321),dk P "is_whole" 329 (r 118),dk P "is_count" 336 (r 125),dk P "look_count" 343 (r 132),dk P "look_order" 349 (r 137),dk P "NO_ROOM" 353 (i 0 352),dk P "END" 355 (i 1 354),dk P "LOWEST" 357 (i 2 356)]
def E8:Obj:=kj (.type "dict") (.dict ⟨dk P "__name__" 165 zz1::yC P⟩ 25)
def wn:=wm++lt 16 105++lt 20 117++lt 22 124++lt 24 131++lt 27 136
def Eh:Obj:=kl wn
def jN:Obj:=kk2 [r 37,r 49,r 61,r 73,r 85,r 97,r 109]
def E9:Obj:=kk6 P 310 "BadText" 16 107
def Fa:Obj:=kk0 "BadText" 305 16 103
def Fb:Obj:=kk1 105 zz0
def Bi:Obj:=kk7 P 310 16 107
def Bj:Obj:=kk8 "BadText" 109 303
def Fc:Obj:=kk4 109
def Fd:Obj:=kk5 109
def Fe:Obj:=kt [z "value" 326]
def kk9 (a:Str)(b:Stmt):Obj:=kg .none a a b 0 .none .none .none .none .none .none
def Ff:Obj:=kk9 "is_whole" s11
def cu (a:Str)(b:Str)(c:Nat)(d:Nat)(e:Nat)(f:Nat)(g:Nat):Obj:=kc a b c (c+1) (c+2) d e 3 f (f+1) (f+2) (f+3) (f+4) g d (g+1)
def Bl:Obj:=cu "is_whole" "is_whole" 323 20 1 112 327
def bz (a:Str)(b:Stmt)(c:Value)(d:Nat):Obj:=kf a a b .none .none c (r d) .none
def Bm:Obj:=bz "is_whole" s11 zz6 117
def Fg:Obj:=kt [z "many" 333]
def Fh:Obj:=kk9 "is_count" s12
def Bn:Obj:=cu "is_count" "is_count" 330 22 1 119 334
def Bo:Obj:=bz "is_count" s12 zz6 124
def Fj:Obj:=kt [z "many" 340]
def Fm:Obj:=kk9 "look_count" s13
def Bp:Obj:=cu "look_count" "look_count" 337 24 1 126 341
def Bq:Obj:=bz "look_count" s13 zz6 131
def Fn:Obj:=kk9 "look_order" s14
def fj (a:Str)(b:Nat)(c:Nat)(d:Nat)(e:Nat):Obj:=kj (.type "code") (.fields #[z a b,z a (b+1),z "/claim/cut.py" (b+2),i c 0,i d 0,i 0 0,i 0 0,i 3 0,r e,.bool true,i 181 0,r (e+1),.none,.none,.none,r (e+2),i (b+3) 0,i c 0,z "/claim/cut.py" (b+4)])
def Br:Obj:=fj "look_order" 344 27 2 133
def Bs:Obj:=bz "look_order" s14 zz6 136
def yD:List DictEntry:=yC P++[dk P "Shelf" 394 (r 161),dk P "look_book" 405 (r 172),dk P "look_parts" 412 (r 179),dk P "things_from" 422 (r 186),dk P "look_doors" 433 (r 193)]
def Fo:Obj:=kj (.type "dict") (.dict ⟨dk P "__name__" 165 zz1::yD P⟩ 30)
def wo:=wn++lt 39 143++lt 50 171++lt 58 178++lt 67 185++lt 73 192
def Ei:Obj:=kl wo
def Fp:Obj:=kj (.type "dict") (.dict #[dk P "__module__" 365 zz1,dk P "__qualname__" 367 (z "Shelf" 366),dk P "__firstlineno__" 369 (i 39 368),dk P "__init__" 376 (r 151),dk P "keep" 384 (r 158),dk P "__static_attributes__" 387 (r 159)] 6)
def Fq:Obj:=kj .none (.fields #[i 41 0,i 4 0,r 150,i 45 0,i 4 0,r 157])
def Fr:Obj:=kk0 "Shelf" 360 39 141
def Fs:Obj:=kk1 143 zz1
def Ft:Obj:=kt [z "self" 373]
def Fu:Obj:=kg .none "__init__" "Shelf.__init__" (ow s19 0) 0 .none .none .none .none .none .none
def Bt:Obj:=cu "__init__" "Shelf.__init__" 370 41 1 145 374
def Bu:Obj:=kf "__init__" "Shelf.__init__" (ow s19 0) .none .none zz1 (r 150) .none
def Fv:Obj:=kt [z "self" 380,z "room" 381]
def Fw:Obj:=kg .none "keep" "Shelf.keep" (ow s19 1) 0 .none .none .none .none .none .none
def Bv:Obj:=cu "keep" "Shelf.keep" 377 45 2 152 382
def Bw:Obj:=kf "keep" "Shelf.keep" (ow s19 1) .none .none zz1 (r 157) .none
def Fx:Obj:=kt [z "numbers" 385,z "rooms" 386]
def Bx:Obj:=kj (.type "dict") (.dict #[dk P "__module__" 365 zz1,dk P "__firstlineno__" 369 (i 39 368),dk P "__init__" 376 (r 151),dk P "keep" 384 (r 158),dk P "__static_attributes__" 387 (r 159),dk P "__dict__" 389 (r 162),dk P "__weakref__" 391 (r 163),dk P "__doc__" 392 .none] 4)
def Bz:Obj:=⟨(.type "type"),none,.cls { name:="Shelf",bases:=[.type "object"],mro:=[r 161,.type "object"],ns:=160,qualname:="Shelf",subclasses:=[] },#[none,none,(some (z "Shelf" 358)),(some (z "Shelf" 366)),(some (.builtin "object.__new__")),(some (.bool true))]⟩
def Fy:Obj:=kj (.type "getset_descriptor") (.fields #[z "__dict__" 388,r 161,.builtin "function.__dict__",.builtin "function.__dict__#set"])
def Fz:Obj:=kk3 390 161
def FA:Obj:=kk4 161
def FC:Obj:=kk5 161
def FD:Obj:=kt [z "book" 398,z "many" 399,z "rooms" 400,z "first" 401,z "things" 402]
def FE:Obj:=kk9 "look_book" s20
def BA:Obj:=cu "look_book" "look_book" 395 50 1 166 403
def BC:Obj:=bz "look_book" s20 zz1 171
def FF:Obj:=kt [z "book" 409]
def FG:Obj:=kk9 "look_parts" s21
def BD:Obj:=cu "look_parts" "look_parts" 406 58 1 173 410
def BE:Obj:=bz "look_parts" s21 zz1 178
def FH:Obj:=kt [z "many" 416,z "rooms" 417,z "things" 418,z "room" 419]
def FI:Obj:=kk9 "things_from" s22
def BF:Obj:=cu "things_from" "things_from" 413 67 2 180 420
def BG:Obj:=bz "things_from" s22 zz1 185
def FJ:Obj:=kt [z "many" 426,z "room" 427,z "number" 428,z "last" 429,z "door" 430]
def FK:Obj:=kk9 "look_doors" s23
def BH:Obj:=cu "look_doors" "look_doors" 423 73 3 187 431
def BI:Obj:=bz "look_doors" s23 zz1 192
def yE:List DictEntry:=yD P++[dk P "is_door" 440 (r 200),dk P "things_of_room" 446 (r 205),dk P "things_through" 456 (r 212),dk P "look_first" 465 (r 219),dk P "look_turn" 474 (r 226),dk P "walk_rooms" 484 (r 233),dk P "book_of" 495 (r 240),dk P "shelve" 501 (r 245),dk P "FIGURES" 505 (z "0123456789" 504),dk P "MOST_FIGURES" 507 (i 15 506),dk P "written" 513 (r 250),dk P "written_room" 519 (r 255),dk P "written_pair" 528 (r 262),dk P "read" 534 (r 267)]
def FL:Obj:=kj (.type "dict") (.dict ⟨dk P "__name__" 165 zz5::yE P⟩ 44)
def sM:=wo++lt 85 199++lt 87 204++lt 92 211++lt 98 218++lt 105 225++lt 112 232++lt 118 239++lt 127 244++lt 138 249++lt 142 254++lt 144 261++lt 146 266
def BJ:Obj:=kl sM
def FM:Obj:=kt [z "door" 437]
def FN:Obj:=kk9 "is_door" s24
def BK:Obj:=cu "is_door" "is_door" 434 85 1 194 438
def BL:Obj:=bz "is_door" s24 zz1 199
def FO:Obj:=kk9 "things_of_room" s25
def BM:Obj:=fj "things_of_room" 441 87 2 201
def BN:Obj:=bz "things_of_room" s25 zz1 204
def FP:Obj:=kt [z "door" 450,z "things" 451,z "thing" 452,z "later" 453]
def FQ:Obj:=kk9 "things_through" s26
def BO:Obj:=cu "things_through" "things_through" 447 92 2 206 454
def BP:Obj:=bz "things_through" s26 zz1 211
def FR:Obj:=kt [z "many" 460,z "things" 461,z "first" 462]
def FS:Obj:=kk9 "look_first" s27
def BQ:Obj:=cu "look_first" "look_first" 457 98 3 213 463
def BR:Obj:=bz "look_first" s27 zz1 218
def FT:Obj:=kt [z "rooms" 469,z "first" 470,z "walked" 471]
def FU:Obj:=kk9 "look_turn" s28
def BS:Obj:=cu "look_turn" "look_turn" 466 105 2 220 472
def BU:Obj:=bz "look_turn" s28 zz1 225
def FV:Obj:=kt [z "rooms" 478,z "number" 479,z "walked" 480,z "door" 481]
def FW:Obj:=kk9 "walk_rooms" s29
def BV:Obj:=cu "walk_rooms" "walk_rooms" 475 112 3 227 482
def BW:Obj:=bz "walk_rooms" s29 zz1 232
def FX:Obj:=kt [z "many" 488,z "orders" 489,z "order" 490,z "shelf" 491,z "first" 492]
def FY:Obj:=kk9 "book_of" s30
def BX:Obj:=cu "book_of" "book_of" 485 118 2 234 493
def BZ:Obj:=bz "book_of" s30 zz1 239
def FZ:Obj:=kk9 "shelve" s31
def B0:Obj:=fj "shelve" 496 127 3 241
def B1:Obj:=bz "shelve" s31 zz1 244
def F1:Obj:=kk9 "written" s35
def B4:Obj:=fj "written" 508 138 1 246
def B5:Obj:=bz "written" s35 zz5 249
def F2:Obj:=kk9 "written_room" s36
def B6:Obj:=fj "written_room" 514 142 1 251
def B7:Obj:=bz "written_room" s36 zz5 254
def F4:Obj:=kt [z "one" 523,z "sign" 524,z "other" 525]
def F5:Obj:=kk9 "written_pair" s37
def B8:Obj:=cu "written_pair" "written_pair" 520 144 3 256 526
def B9:Obj:=bz "written_pair" s37 zz5 261
def F6:Obj:=kk9 "read" s38
def Ca:Obj:=fj "read" 529 146 1 263
def Cb:Obj:=bz "read" s38 zz5 266
def Cc:List DictEntry:=yE P++[dk P "read_room" 540 (r 272),dk P "numbers_in" 549 (r 279),dk P "read_number" 555 (r 284),dk P "_law_cell" 565 (r 291),dk P "_law_mix" 574 (r 298),dk P "_law_all" 580 (r 303),dk P "_law_set" 586 (r 308),dk P "_law_refusal" 594 (r 315),dk P "_law_text" 600 (r 320),dk P "_law_numbers" 606 (r 325),dk P "_law_tried" 612 (r 330),dk P "_law_is_book" 621 (r 337),dk P "law" 640 (r 344)]
def uw:Obj:=kj (.type "dict") (.dict ⟨dk P "__name__" 165 zz2::Cc P⟩ 57)
def Ad:=sM++lt 155 271++lt 157 278++lt 162 283++lt 171 290++lt 175 297++lt 179 302++lt 187 307++lt 197 314++lt 206 319++lt 211 324++lt 218 329++lt 230 336++lt 237 343
def wq:Obj:=kl Ad
def F7:Obj:=kk9 "read_room" s39
def Cd:Obj:=fj "read_room" 535 155 1 268
def Ce:Obj:=bz "read_room" s39 zz5 271
def F8:Obj:=kt [z "text" 544,z "sign" 545,z "parts" 546]
def F9:Obj:=kk9 "numbers_in" s40
def Cf:Obj:=cu "numbers_in" "numbers_in" 541 157 2 273 547
def Cg:Obj:=bz "numbers_in" s40 zz5 278
def Ga:Obj:=kk9 "read_number" s41
def Ch:Obj:=fj "read_number" 550 162 1 280
def Ci:Obj:=bz "read_number" s41 zz5 283
def Gb:Obj:=kt [z "_law_script" 561,z "_law_k" 562]
def Gc:Obj:=kk9 "_law_cell" s43
def Cj:Obj:=cu "_law_cell" "_law_cell" 558 171 2 285 563
def Ck:Obj:=bz "_law_cell" s43 zz2 290
def Gd:Obj:=kt [z "_law_script" 569,z "_law_k" 570,z "_law_number" 571]
def Ge:Obj:=kk9 "_law_mix" s44
def Cl:Obj:=cu "_law_mix" "_law_mix" 566 175 2 292 572
def Cm:Obj:=bz "_law_mix" s44 zz2 297
def Gf:Obj:=kj .none (.fields #[])
def Gg:Obj:=kk9 "_law_all" s45
def Cn:Obj:=fj "_law_all" 575 179 1 299
def Co:Obj:=bz "_law_all" s45 zz2 302
def Gh:Obj:=kt []
def Gi:Obj:=kj .none (.fields #[])
def Gj:Obj:=kk9 "_law_set" s46
def Cp:Obj:=fj "_law_set" 581 187 3 304
def Cq:Obj:=bz "_law_set" s46 zz2 307
def Gk:Obj:=kt []
def Gm:Obj:=kj .none (.fields #[])
def Gn:Obj:=kt [z "_law_kept" 590,z "_law_kinds" 591]
def Go:Obj:=kt []
def Gp:Obj:=kk9 "_law_refusal" s47
def Cr:Obj:=cu "_law_refusal" "_law_refusal" 587 197 1 309 592
def Cs:Obj:=bz "_law_refusal" s47 zz2 314
def Gq:Obj:=kt []
def Gr:Obj:=kj .none (.fields #[])
def Gs:Obj:=kk9 "_law_text" s48
def Ct:Obj:=fj "_law_text" 595 206 1 316
def Cu:Obj:=bz "_law_text" s48 zz2 319
def Gu:Obj:=kt []
def Gv:Obj:=kj .none (.fields #[])
def Gw:Obj:=kk9 "_law_numbers" s49
def Cv:Obj:=fj "_law_numbers" 601 211 1 321
def Cw:Obj:=bz "_law_numbers" s49 zz2 324
def Gx:Obj:=kt []
def Gy:Obj:=kj .none (.fields #[])
def Gz:Obj:=kk9 "_law_tried" s50
def Cy:Obj:=fj "_law_tried" 607 218 1 326
def Cz:Obj:=bz "_law_tried" s50 zz2 329
def GA:Obj:=kt []
def GB:Obj:=kj .none (.fields #[])
def GC:Obj:=kt [z "_law_tried_here" 616,z "_law_kept" 617,z "e" 618]
def GD:Obj:=kt []
def GE:Obj:=kk9 "_law_is_book" s51
def CA:Obj:=cu "_law_is_book" "_law_is_book" 613 230 1 331 619
def CC:Obj:=bz "_law_is_book" s51 zz2 336
def GF:Obj:=kt []
def GG:Obj:=kj .none (.fields #[])
def GH:Obj:=kt [z "_law_script" 625,z "_law_many" 626,z "_law_book" 627,z "_law_text_here" 628,z "_law_k" 629,z "_law_number" 630,z "_law_at" 631,z "_law_one" 632,z "_law_some" 633,z "_law_kept" 634,z "_law_found" 635,z "e" 636,z "_law_tried_here" 637]
def GI:Obj:=kt []
def GJ:Obj:=kk9 "law" s52
def CD:Obj:=cu "law" "law" 622 237 1 338 638
def CF:Obj:=bz "law" s52 zz2 343
def ev:List Obj->List Obj
 | x::_::r=>x::ev r
 | l=>l
def od:List Obj->List Obj
 | _::y::r=>y::od r
 | _=>[]
def tr:Nat->List Obj->BT
 | n+1,x::r=>.node x (tr n (ev r)) (tr n (od r))
 | _,_=>.nil
def ux (x3 x12 x24:Obj):List Obj:=[boot_o_0 P,boot_o_1 P,boot_o_2 P,x3,boot_o_4 P,boot_o_5 P,boot_o_6 P,boot_o_7 P,boot_o_8 P,boot_o_9 P,boot_o_10 P,o11,x12,o13,o14]
abbrev Ae:=ux
def CG (x3 x12 x24:Obj):List Obj:=ux P x3 x12 x24++[o15,o16,o17 P,o11,o12,o20,o21,o11,o23 P,x24,o25,o26,o27]
def CH (x3 x12 x24:Obj):List Obj:=CG P x3 x12 x24++[o28,o16,o30 P,o31,o32,o33,o34,o35,o36 P,o37,o38,o39]
def CI (x3 x12 x24:Obj):List Obj:=CH P x3 x12 x24++[o28,o16,o42 P,o35,o32,o45,o46,o35,o48 P,o49,o50,o51]
def CJ (x3 x12 x24:Obj):List Obj:=CI P x3 x12 x24++[o28,o16,o54 P,o35,o32,o57,o58,o35,o60 P,o61,o62,o63]
def CK (x3 x12 x24:Obj):List Obj:=CJ P x3 x12 x24++[o28,o16,o66 P,o35,o32,o69,o70,o35,o72 P,o73,o74,o75]
def CL (x3 x12 x24:Obj):List Obj:=CK P x3 x12 x24++[o28,o16,o78 P,o35,o32,o81,o82,o35,o84 P,o85,o86,o87]
def CM (x3 x12 x24:Obj):List Obj:=CL P x3 x12 x24++[o28,o16,o90 P,o35,o32,o93,o94,o35,o96 P,o97,o98,o99]
def CP (x3 x12 x24:Obj):List Obj:=CM P x3 x12 x24++[o28,o16,E9 P,o35,o32,Fa,Fb,o35,Bi P,Bj,Fc,Fd,o35,o32,Fe,o35,Ff,Bl,Bm,o35,o32,Fg,o35,Fh,Bn,Bo,o35,o32,Fj,o35,Fm,Bp,Bq,o35,o32,Fn,Br,Bs]
def CQ (x3 x12 x24:Obj):List Obj:=CP P x3 x12 x24++[o35,o16,Fp P,o35,Fq,Fr,Fs,o35,o32,Ft,o35,Fu,Bt,Bu,o35,o32,Fv,o35,Fw,Bv,Bw,Fx,Bx P,Bz,Fy,Fz,FA,FC,o35,o32,FD,o35,FE,BA,BC,o35,o32,FF,o35,FG,BD,BE,o35,o32,FH,o35,FI,BF,BG,o35,o32,FJ,o35,FK,BH,BI]
def CS (x3 x12 x24:Obj):List Obj:=CQ P x3 x12 x24++[o35,o32,FM,o35,FN,BK,BL,o35,o32,FO,BM,BN,o35,o32,FP,o35,FQ,BO,BP,o35,o32,FR,o35,FS,BQ,BR,o35,o32,FT,o35,FU,BS,BU,o35,o32,FV,o35,FW,BV,BW,o35,o32,FX,o35,FY,BX,BZ,o35,o32,FZ,B0,B1,o35,o32,F1,B4,B5,o35,o32,F2,B6,B7,o35,o32,F4,o35,F5,B8,B9,o35,o32,F6,Ca,Cb]
def yF (x3 x12 x24:Obj):List Obj:=CS P x3 x12 x24++[o35,o32,F7,Cd,Ce,o35,o32,F8,o35,F9,Cf,Cg,o35,o32,Ga,Ch,Ci,o35,o32,Gb,o35,Gc,Cj,Ck,o35,o32,Gd,o35,Ge,Cl,Cm,o35,Gf,Gg,Cn,Co,Gh,Gi,Gj,Cp,Cq,Gk,Gm,Gn,Go,Gp,Cr,Cs,Gq,Gr,Gs,Ct,Cu,Gu,Gv,Gw,Cv,Cw,Gx,Gy,Gz,Cy,Cz,GA,GB,GC,GD,GE,CA,CC,GF,GG,GH,GI,GJ,CD,CF]
def sN:BT:=tr 10 (Ae P (boot_o_3 P) (o12) (o14))
def CU:BT:=tr 10 (CG P (o3 P) (DW) (o24))
def CV:BT:=tr 10 (CH P (E2 P) (DX) (DY))
def CW:BT:=tr 10 (CI P (E3 P) (DZ) (D7))
def CY:BT:=tr 10 (CJ P (E4 P) (D9) (Ea))
def CZ:BT:=tr 10 (CK P (E5 P) (Eb) (Ec))
def C0:BT:=tr 10 (CL P (E6 P) (Ed) (Ee))
def C1:BT:=tr 10 (CM P (E7 P) (Ef) (Eg))
def C3:BT:=tr 10 (CP P (E8 P) (Eh) (jN))
def C4:BT:=tr 10 (CQ P (Fo P) (Ei) (jN))
def C5:BT:=tr 10 (CS P (FL P) (BJ) (jN))
def yG:BT:=tr 10 (yF P (uw P) (wq) (jN))
def hA:Heap:=⟨⟨ux P (boot_o_3 P) (o12) (o14)⟩,{}⟩
def hF:Heap:=⟨⟨yF P (uw P) (wq) (jN)⟩,{}⟩
def K:Frag:=(nat_lit 2,boot_o_2 P)::(nat_lit 3,uw P)::(nat_lit 23,o23 P)::(nat_lit 24,jN)::(nat_lit 36,o36 P)::(nat_lit 37,o37)::(nat_lit 48,o48 P)::(nat_lit 49,o49)::(nat_lit 60,o60 P)::(nat_lit 61,o61)::(nat_lit 72,o72 P)::(nat_lit 73,o73)::(nat_lit 84,o84 P)::(nat_lit 85,o85)::(nat_lit 96,o96 P)::(nat_lit 97,o97)::(nat_lit 108,Bi P)::(nat_lit 109,Bj)::(nat_lit 117,Bl)::(nat_lit 118,Bm)::(nat_lit 124,Bn)::(nat_lit 125,Bo)::(nat_lit 131,Bp)::(nat_lit 132,Bq)::(nat_lit 136,Br)::(nat_lit 137,Bs)::(nat_lit 150,Bt)::(nat_lit 151,Bu)::(nat_lit 157,Bv)::(nat_lit 158,Bw)::(nat_lit 160,Bx P)::(nat_lit 161,Bz)::(nat_lit 171,BA)::(nat_lit 172,BC)::(nat_lit 178,BD)::(nat_lit 179,BE)::(nat_lit 185,BF)::(nat_lit 186,BG)::(nat_lit 192,BH)::(nat_lit 193,BI)::(nat_lit 199,BK)::(nat_lit 200,BL)::(nat_lit 204,BM)::(nat_lit 205,BN)::(nat_lit 211,BO)::(nat_lit 212,BP)::(nat_lit 218,BQ)::(nat_lit 219,BR)::(nat_lit 225,BS)::(nat_lit 226,BU)::(nat_lit 232,BV)::(nat_lit 233,BW)::(nat_lit 239,BX)::(nat_lit 240,BZ)::(nat_lit 244,B0)::(nat_lit 245,B1)::(nat_lit 249,B4)::(nat_lit 250,B5)::(nat_lit 254,B6)::(nat_lit 255,B7)::(nat_lit 261,B8)::(nat_lit 262,B9)::(nat_lit 266,Ca)::(nat_lit 267,Cb)::(nat_lit 271,Cd)::(nat_lit 272,Ce)::(nat_lit 278,Cf)::(nat_lit 279,Cg)::(nat_lit 283,Ch)::(nat_lit 284,Ci)::(nat_lit 290,Cj)::(nat_lit 291,Ck)::(nat_lit 297,Cl)::(nat_lit 298,Cm)::(nat_lit 302,Cn)::(nat_lit 303,Co)::(nat_lit 307,Cp)::(nat_lit 308,Cq)::(nat_lit 314,Cr)::(nat_lit 315,Cs)::(nat_lit 319,Ct)::(nat_lit 320,Cu)::(nat_lit 324,Cv)::(nat_lit 325,Cw)::(nat_lit 329,Cy)::(nat_lit 330,Cz)::(nat_lit 336,CA)::(nat_lit 337,CC)::(nat_lit 343,CD)::(nat_lit 344,CF)::[]
def as_:List Addr:=[2,3,23,24,36,37,48,49,60,61,72,73,84,85,96,97,108,109,117,118,124,125,131,132,136,137,150,151,157,158,160,161,171,172,178,179,185,186,192,193,199,200,204,205,211,212,218,219,225,226,232,233,239,240,244,245,249,250,254,255,261,262,266,267,271,272,278,279,283,284,290,291,297,298,302,303,307,308,314,315,319,320,324,325,329,330,336,337,343,344]
def B:List Frame:=[topFrame ⟨0,0,0,0⟩]
def env:Env:={ scope:=pw.main.scope,locals:=mainNs,globals:=mainNs,cells:=[],code:=(.ref 13),frame:=some 14 }
def cE:Code:=.body (behindTheImports pw) env
def sT (t:Params->BT) (n k:Nat) (w:World) (os:OsState):SharedT:=⟨t w.params,n,{},⟨[]⟩,{},k,os⟩
def sH (h:Params->Heap) (k:Nat) (w:World) (os:OsState):Shared:=⟨h w.params,⟨[]⟩,{},k,os⟩
def sO (w:World) (os:OsState):Shared:=⟨boot_heap w.params,⟨[]⟩,boot_drawn,boot_toks,os⟩
theorem GK (w:World) (os:OsState):topGo treeTable pw w 11 (some (.ref 6)) 12 (sO w os) (topStub pw)=some (sH hA 187 w os,⟨denote treeTable cE,cE,⟨0,0,0,0⟩,B⟩):=by
 rewrite [W.Fast.te15667345088766844465,W.Fast.te14364793385576792824,W.Fast.te11892475500146522536];kernel_rfl
theorem C6 (w:World) (os:OsState):segRun treeTable pw w 11 (some (.ref 6)) 1 1 (sH hA 187 w os) (blockOf (behindTheImports pw) env cE ⟨0,0,0,0⟩ B)=some (.next,(sT sN 15 187 w os).abs,cE,⟨0,0,0,0⟩):=by
 rewrite [W.Fast.te14374325043358763698,W.Fast.te14364793385576792824];kernel_rfl
def C7:List Stmt:=[s0,s1]
theorem GL (w:World) (os:OsState):segRunT treeTable pw w 11 (some (.ref 6)) 1 196 (sT sN 15 187 w os) (piecesOf C7 env cE ⟨0,0,0,0⟩ B)=some (.next,sT CU 28 207 w os,cE,⟨2,0,3,8⟩):=by
 rewrite [W.Fast.te10110043849684766642,W.Fast.te14364793385576792824];kernel_rfl
def C8:List Stmt:=[s2]
theorem GM (w:World) (os:OsState):segRunT treeTable pw w 11 (some (.ref 6)) 1 214 (sT CU 28 207 w os) (piecesOf C8 env cE ⟨2,0,3,8⟩ B)=some (.next,sT CV 40 223 w os,cE,⟨4,0,5,8⟩):=by
 rewrite [W.Fast.te10110043849684766642,W.Fast.te14364793385576792824];kernel_rfl
def C9:List Stmt:=[s3]
theorem GN (w:World) (os:OsState):segRunT treeTable pw w 11 (some (.ref 6)) 1 214 (sT CV 40 223 w os) (piecesOf C9 env cE ⟨4,0,5,8⟩ B)=some (.next,sT CW 52 239 w os,cE,⟨6,0,7,8⟩):=by
 rewrite [W.Fast.te10110043849684766642,W.Fast.te14364793385576792824];kernel_rfl
def Da:List Stmt:=[s4]
theorem GO (w:World) (os:OsState):segRunT treeTable pw w 11 (some (.ref 6)) 1 214 (sT CW 52 239 w os) (piecesOf Da env cE ⟨6,0,7,8⟩ B)=some (.next,sT CY 64 255 w os,cE,⟨8,0,9,8⟩):=by
 rewrite [W.Fast.te10110043849684766642,W.Fast.te14364793385576792824];kernel_rfl
def Db:List Stmt:=[s5]
theorem GP (w:World) (os:OsState):segRunT treeTable pw w 11 (some (.ref 6)) 1 214 (sT CY 64 255 w os) (piecesOf Db env cE ⟨8,0,9,8⟩ B)=some (.next,sT CZ 76 271 w os,cE,⟨10,0,11,8⟩):=by
 rewrite [W.Fast.te10110043849684766642,W.Fast.te14364793385576792824];kernel_rfl
def Dc:List Stmt:=[s6]
theorem GQ (w:World) (os:OsState):segRunT treeTable pw w 11 (some (.ref 6)) 1 214 (sT CZ 76 271 w os) (piecesOf Dc env cE ⟨10,0,11,8⟩ B)=some (.next,sT C0 88 287 w os,cE,⟨12,0,13,8⟩):=by
 rewrite [W.Fast.te10110043849684766642,W.Fast.te14364793385576792824];kernel_rfl
def Dd:List Stmt:=[s7]
theorem GR (w:World) (os:OsState):segRunT treeTable pw w 11 (some (.ref 6)) 1 214 (sT C0 88 287 w os) (piecesOf Dd env cE ⟨12,0,13,8⟩ B)=some (.next,sT C1 100 303 w os,cE,⟨14,0,15,8⟩):=by
 rewrite [W.Fast.te10110043849684766642,W.Fast.te14364793385576792824];kernel_rfl
def De:List Stmt:=[s8,s9,s10,s11,s12,s13,s14,s15,s16,s17,s18]
theorem GS (w:World) (os:OsState):segRunT treeTable pw w 11 (some (.ref 6)) 1 381 (sT C1 100 303 w os) (piecesOf De env cE ⟨14,0,15,8⟩ B)=some (.next,sT C3 138 358 w os,cE,⟨38,0,38,6⟩):=by
 rewrite [W.Fast.te10110043849684766642,W.Fast.te14364793385576792824];kernel_rfl
def Dg:List Stmt:=[s19,s20,s21,s22,s23]
theorem GT (w:World) (os:OsState):segRunT treeTable pw w 11 (some (.ref 6)) 1 382 (sT C3 138 358 w os) (piecesOf Dg env cE ⟨38,0,38,6⟩ B)=some (.next,sT C4 194 434 w os,cE,⟨73,0,84,22⟩):=by
 rewrite [W.Fast.te10110043849684766642,W.Fast.te14364793385576792824];kernel_rfl
def Dh:List Stmt:=[s24,s25,s26,s27,s28,s29,s30,s31,s32,s33,s34,s35,s36,s37,s38]
theorem GU (w:World) (os:OsState):segRunT treeTable pw w 11 (some (.ref 6)) 1 377 (sT C4 194 434 w os) (piecesOf Dh env cE ⟨73,0,84,22⟩ B)=some (.next,sT C5 268 535 w os,cE,⟨146,0,154,15⟩):=by
 rewrite [W.Fast.te10110043849684766642,W.Fast.te14364793385576792824];kernel_rfl
def yH:List Stmt:=[s39,s40,s41,s42,s43,s44,s45,s46,s47,s48,s49,s50,s51,s52]
theorem Ej (w:World) (os:OsState):segRunT treeTable pw w 11 (some (.ref 6)) 1 386 (sT C5 268 535 w os) (piecesOf yH env cE ⟨146,0,154,15⟩ B)=some (.next,sT yG 345 641 w os,cE,⟨237,0,265,44⟩):=by
 rewrite [W.Fast.te10110043849684766642,W.Fast.te14364793385576792824];kernel_rfl
theorem GV (w:World) (os:OsState):topRun treeTable pw w 11 (some (.ref 6)) 2 (sT yG 345 641 w os).abs (restOf [] env cE ⟨237,0,265,44⟩ B)=some (sH hF 641 w os):=by
 rewrite [W.Fast.te14082659384304107361,W.Fast.te14364793385576792824];kernel_rfl
theorem Ek:behindTheImports pw=C7++(C8++(C9++(Da++(Db++(Dc++(Dd++(De++(Dg++(Dh++(yH++[])))))))))):=by kernel_rfl
theorem GW (w:World) (os:OsState):topRun treeTable pw w 11 (some (.ref 6)) (12+(1+(196+(214+(214+(214+(214+(214+(214+(381+(382+(377+(386+(2)))))))))))))) (sO w os) (topStub pw)=some (sH hF 641 w os):=by
 refine go_top (GK w os) (piece_block (C6 w os) ?_)
 rw[Ek]
 exact piece_app (segRun_of (GL w os)) (piece_app (segRun_of (GM w os)) (piece_app (segRun_of (GN w os)) (piece_app (segRun_of (GO w os)) (piece_app (segRun_of (GP w os)) (piece_app (segRun_of (GQ w os)) (piece_app (segRun_of (GR w os)) (piece_app (segRun_of (GS w os)) (piece_app (segRun_of (GT w os)) (piece_app (segRun_of (GU w os)) (piece_app (segRun_of (Ej w os)) (GV w os)))))))))))
def jk:Program:={ pw with main:={ pw.main with body:=[s1,s2,s3,s4,s5,s6,s7,s8,s10,s11,s12,s13,s14,s16,s17,s18,s19,s20,s21,s22,s23,s24,s25,s26,s27,s28,s29,s30,s31,s33,s34,s35,s36,s37,s38,s39,s40,s41,s43,s44,s45,s46,s47,s48,s49,s50,s51,s52] } }
abbrev xY:WRecords:=RowW.records (OpenRow.toRowW (OpenLaw.row PySem.Challenge.rw_ordernest_k60_texts))
def Xt (s:Shared):Bool:=xlAt jk [] s&&recOk xY s
abbrev H:Hook:=kHook K as_ (fun _=>by kernel_rfl)
theorem Em (w:World):((boot_heap w.params).isNs mainGlobals&&(Array.mk ([]:List GenState)).size==0,(boot_heap w.params).objs.size,(boot_heap w.params).nsMap mainGlobals "__annotations__")=(true,11,(some (.ref 6))):=by kernel_rfl
open PyProof.Rows in
theorem En (w:World) (os:OsState):openSeen jk [] (importedModules pw.main.body) Xt true (sH hF 641 w os)=openGood jk []:=by
 unfold openSeen openGood
 refine looks_pair ?a (looks_pair ?b (looks_pair ?c (looks_pair ?d (looks_pair ?e (looks_pair ?f (looks_pair ?g (looks_pair ?h ?i)))))))
 case a=>rewrite [W.Fast.te5160383126252970620,W.R.mapR_eq,W.Fast.te3399658132070893891,W.Fast.te5991557255702980513];kernel_rfl
 case b=>kernel_rfl
 case c=>rewrite [W.Fast.te10880121769531294198,W.Fast.te821141287760084731,W.R.mapR_eq,W.Fast.te3399658132070893891,W.Fast.te7409074990110511671,W.Fast.te13664370479719496447,W.Fast.te14722251495701143533,W.Fast.te5923862056798008813,W.Fast.te10994771534591457954];kernel_rfl
 case d=>rewrite [W.Fast.te479339242167458305];kernel_rfl
 case e=>rewrite [W.Fast.te16090120013241838585,W.Fast.te3247288618530077131];kernel_rfl
 case f=>rewrite [W.Fast.te2386780881361962483,W.Fast.te821141287760084731];kernel_rfl
 case g=>rewrite [W.Fast.te11698064438423848299];kernel_rfl
 case h=>rewrite [W.Fast.te7317090234206586261];kernel_rfl
 case i=>rewrite [W.Fast.te7369524293546568484];kernel_rfl
theorem Eo (w:World) (os:OsState):(staticsOk (importedModules pw.main.body) (boot_heap w.params) (hF w.params)&&namesBound pw (hF w.params)&&gensDone (sH hF 641 w os)&&laidKept (boot_heap w.params) (hF w.params))=true:=by
 rewrite [W.Fast.te5923862056798008813];kernel_rfl
theorem GX (w:World) (os:OsState):Hook.obs H (sH hF 641 w os)=Hook.val H w:=by kernel_rfl
theorem xZ:opening pw=plainProg pw.main.scope.names:=by kernel_rfl
theorem Ep:LeftO pw jk [] Xt (Hook.obs H) (Hook.val H) 6116:=
 LeftO.of_pieces (H₁:=hF) (boot_open xZ rfl fun s=>by kernel_rfl) Em GW rfl fun w=>funext fun os=>looks_pair (Eo w os) (looks_pair (En w os) (GX w os))
end
end Vw
namespace L2
open PySem PySem.Spec PyProof.Rows
structure Dn (K:W.Frag) (x:Str) (st:Stmt) (f:Addr) (fd:FuncData):Prop where
 fn:Fun K x x st f fd
 ns:W.nsIn K mainGlobals x=some (some (.ref f))
theorem bc {K:W.Frag}{x:Str}{st:Stmt}{f:Addr}{oc:Value}{od an:Option Addr}{osl:Array (Option Value)}{kV doc pm cdv ct:Value}(a:W.nsIn K mainGlobals x=some (some (.ref f)))
  (l:K.lookup f=some ⟨oc,od,.func (W.fnOf x x (cU st) (cj st) (am st) .none kV doc pm an cdv ct),osl⟩) (c:W.codeIn K cdv x=true) (k:W.keepIn K (.ref f)=true) :
  Dn K x st f (W.fnOf x x (cU st) (cj st) (am st) .none kV doc pm an cdv ct):=⟨uT l c k,a⟩
theorem Dn.df {P:Program}{w:World}{K:W.Frag}{mg:Str->Option Value}{base h:Heap}{CX:CXT}{k:Nat}{x:Str}{st:Stmt}{f:Addr}{fd:FuncData}{ps:List Str}{sp:Sp}(D:Dn K x st f fd) (X:K.In h) (G:h.Ns mainGlobals mg)
  (b:cC K fd ps []) (F:FnOk P w K mg base CX k f fd ps sp):Df P w K mg base CX k x ps sp:=⟨f,fd,F,b,D.fn.kp,W.mg_of X G D.ns⟩
theorem Dn.dg (P:Program) (w:World) {K:W.Frag}{mg:Str->Option Value}(base:Heap) {h:Heap}{CX:CXT}{k:Nat}{x:Str}{st:Stmt}{f:Addr}{fd:FuncData}{ps:List Str}{sp:Sp}(D:Dn K x st f fd) (X:K.In h) (G:h.Ns mainGlobals mg)
  (b:cC K fd ps []) (F:FnOk P w K mg base CX k f fd ps sp):Df P w K mg base CX k x ps sp:=⟨f,fd,F,b,D.fn.kp,W.mg_of X G D.ns⟩
structure Mn (K:W.Frag) (C:Addr) (x qual:Str) (st:Stmt) (f:Addr) (fd:FuncData):Prop where
 fn:Fun K x qual st f fd
 mt:Meth K C x f
theorem yI {K:W.Frag}{C:Addr}{x qual:Str}{st:Stmt}{f:Addr}{oc:Value}{od an:Option Addr}{osl:Array (Option Value)}{kV doc pm cdv ct:Value}(a:W.findIn K (.ref C) x=some (some (.ref f))) (i:W.isFn K (.ref f)=true)
  (l:K.lookup f=some ⟨oc,od,.func (W.fnOf x qual (cU st) (cj st) (am st) .none kV doc pm an cdv ct),osl⟩) (c:W.codeIn K cdv qual=true) (k:W.keepIn K (.ref f)=true) :
  Mn K C x qual st f (W.fnOf x qual (cU st) (cj st) (am st) .none kV doc pm an cdv ct):=⟨uT l c k,a,i,k⟩
theorem cf {p:List Value->Prop}(h:∀a,p [a]) (us:List Value) (e:us.length=1):p us:=by
 cases us with
 | nil=>cases e
 | cons a us=>cases us with
 | nil=>exact h a
 | cons x us=>cases e
theorem fv {p:List Value->Prop}(h:∀a b,p [a,b]) (us:List Value) (e:us.length=2):p us:=by
 cases us with
 | nil=>cases e
 | cons a us=>cases us with
 | nil=>cases e
 | cons b us=>cases us with
 | nil=>exact h a b
 | cons x us=>cases e
theorem jO {p:List Value->Prop}(h:∀a b c,p [a,b,c]) (us:List Value) (e:us.length=3):p us:=by
 cases us with
 | nil=>cases e
 | cons a us=>cases us with
 | nil=>cases e
 | cons b us=>cases us with
 | nil=>cases e
 | cons c us=>cases us with
 | nil=>exact h a b c
 | cons x us=>cases e
end L2
namespace Ord
open PySem L2 Mx
theorem Kd.mk' {K:W.Frag}{mg:Str->Option Value}{h:Heap}{x:Str}{C D:Addr}{b:Bool}(X:K.In h) (G:h.Ns mainGlobals mg) (ho:W.mroIn K C (.ref C)=some true) (a:W.nsIn K mainGlobals x=some (some (.ref D))) (c:W.isClsIn K D=true) (t:W.typeIn K (.ref D)=some (.type "type")) (m:W.mroIn K C (.ref D)=some b):Kd K mg C x b:=by
 refine⟨D,W.mg_of X G a,?_⟩
 rw[y4 ⟨c,t⟩ m]
 by_cases e:C=D
 ·subst e
  rw[ho] at m
  cases m
  rw[if_pos rfl]
 ·rw[if_neg e]
theorem Di {l:W.OpenLaw}{w:World}{K:W.Frag}{h:Heap}{mg:Str->Option Value}{fa CO CB CT CE C:Addr}(X:K.In h) (G:h.Ns mainGlobals mg) (hfa:mg "law"=some (.ref fa))
  {t8 t0 t1 t2 tf tm:Tok}{fi fk:Addr}{gi gk:FuncData}{f0 f1 f2 f3 f4 f5 f6 f7 f8 f9 f10 f11 f12 f13 f14 f15 f16 f17 f18 f19 f20 f21 f22 f23 f24 f25 f26 f27 f28 f29 f30 f31 f32:Addr}{g0 g1 g2 g3 g4 g5 g6 g7 g8 g9 g10 g11 g12 g13 g14 g15 g16 g17 g18 g19 g20 g21 g22 g23 g24 g25 g26 g27 g28 g29 g30 g31 g32:FuncData}
  (d0:Dn K "is_whole" oX f0 g0)
  (d1:Dn K "is_count" oY f1 g1)
  (d2:Dn K "look_count" oZ f2 g2)
  (d3:Dn K "look_order" n6 f3 g3)
  (d4:Dn K "is_door" pO f4 g4)
  (d5:Dn K "things_through" j6 f5 g5)
  (d6:Dn K "look_parts" pR f6 g6)
  (d7:Dn K "look_first" pQ f7 g7)
  (d8:Dn K "look_doors" pP f8 g8)
  (d9:Dn K "things_of_room" jC f9 g9)
  (d10:Dn K "things_from" tV f10 g10)
  (d11:Dn K "walk_rooms" om f11 g11)
  (d12:Dn K "look_turn" li f12 g12)
  (d13:Dn K "look_book" tW f13 g13)
  (d14:Dn K "shelve" gY f14 g14)
  (d15:Dn K "book_of" mn f15 g15)
  (d16:Dn K "written_pair" qy f16 g16)
  (d17:Dn K "written_room" lx f17 g17)
  (d18:Dn K "written" iA f18 g18)
  (d19:Dn K "read_number" lu f19 g19)
  (d20:Dn K "numbers_in" ma f20 g20)
  (d21:Dn K "read_room" jI f21 g21)
  (d22:Dn K "read" oo f22 g22)
  (d23:Dn K "_law_cell" uq f23 g23)
  (d24:Dn K "_law_mix" xT f24 g24)
  (d25:Dn K "_law_all" ur f25 g25)
  (d26:Dn K "_law_set" qQ f26 g26)
  (d27:Dn K "_law_refusal" uv f27 g27)
  (d28:Dn K "_law_text" lz f28 g28)
  (d29:Dn K "_law_numbers" lB f29 g29)
  (d30:Dn K "_law_tried" fc f30 g30)
  (d31:Dn K "_law_is_book" ue f31 g31)
  (d32:Dn K "law" gH f32 g32)
  (aC:W.nsIn K mainGlobals "Shelf"=some (some (.ref C))) (mi:Mn K C "__init__" "Shelf.__init__" uh fi gi) (mk:Mn K C "keep" "Shelf.keep" oq fk gk)
  (pg:W.plainGet K C Str.empty=true) (hd:W.hasDictIn K C=true) (po:W.plainOver K C=true) (sa:W.findIn K (.ref C) "__setattr__"=some (some (.builtin "object.__setattr__"))) (ms:W.makesIn K C=true) (kc:W.keepIn K (.ref C)=true)
  (nR:W.findIn K (.ref C) "rooms"=some none) (nN:W.findIn K (.ref C) "numbers"=some none)
  (xo:W.excIn K CO bmV "ValueError.__new__"=true) (xb:W.excIn K CB bmV "ValueError.__new__"=true) (xt:W.excIn K CT bmV "ValueError.__new__"=true)
  (cn:W.nsIn K mainGlobals "NestError"=some (some (.ref CE))) (nt:W.instIn K (.ref CE) (.type "tuple")=some false) (xc:W.mroIn K CE (.type "BaseException")=some true) (cl:W.isClsIn K CE=true) (bnt:W.instIn K (.ref CB) (.type "tuple")=some false)
  {D1 D3 D5 D6:Addr}
  (na0:W.nsIn K mainGlobals "BadBook"=some (some (.ref CB))) (nc0:W.isClsIn K CB=true) (ny0:W.typeIn K (.ref CB)=some (.type "type"))
  (na1:W.nsIn K mainGlobals "BadNumber"=some (some (.ref D1))) (nc1:W.isClsIn K D1=true) (ny1:W.typeIn K (.ref D1)=some (.type "type"))
  (na2:W.nsIn K mainGlobals "BadOrder"=some (some (.ref CO))) (nc2:W.isClsIn K CO=true) (ny2:W.typeIn K (.ref CO)=some (.type "type"))
  (na3:W.nsIn K mainGlobals "BadRule"=some (some (.ref D3))) (nc3:W.isClsIn K D3=true) (ny3:W.typeIn K (.ref D3)=some (.type "type"))
  (na4:W.nsIn K mainGlobals "BadText"=some (some (.ref CT))) (nc4:W.isClsIn K CT=true) (ny4:W.typeIn K (.ref CT)=some (.type "type"))
  (na5:W.nsIn K mainGlobals "BadWeights"=some (some (.ref D5))) (nc5:W.isClsIn K D5=true) (ny5:W.typeIn K (.ref D5)=some (.type "type"))
  (na6:W.nsIn K mainGlobals "Unlike"=some (some (.ref D6))) (nc6:W.isClsIn K D6=true) (ny6:W.typeIn K (.ref D6)=some (.type "type"))
  (onb:W.mroIn K CB (.ref CE)=some true) (eb1:W.isClsIn K CB=true) (eb2:W.findIn K (.ref CB) "__getattribute__"=some (some (.builtin "BaseException.__getattribute__"))) (eb3:W.findIn K (.ref CB) "__getattr__"=some none) (eb4:W.findIn K (.ref CB) "__class__"=some (some (.builtin "object.__class__"))) (eb5:W.mroIn K CB (.type "object")=some true) (eb6:W.mroIn K CB (.type "BaseException")=some true)
  (eb7:W.mroIn K CB (.ref CB)=some true) (eb8:W.mroIn K CB (.type "ValueError")=some true)
  (mb0:W.mroIn K CB (.ref CB)=some true)
  (mb1:W.mroIn K CB (.ref D1)=some false)
  (mb2:W.mroIn K CB (.ref CO)=some false)
  (mb3:W.mroIn K CB (.ref D3)=some false)
  (mb4:W.mroIn K CB (.ref CT)=some false)
  (mb5:W.mroIn K CB (.ref D5)=some false)
  (mb6:W.mroIn K CB (.ref D6)=some false)
  (ont:W.mroIn K CT (.ref CE)=some true) (et1:W.isClsIn K CT=true) (et2:W.findIn K (.ref CT) "__getattribute__"=some (some (.builtin "BaseException.__getattribute__"))) (et3:W.findIn K (.ref CT) "__getattr__"=some none) (et4:W.findIn K (.ref CT) "__class__"=some (some (.builtin "object.__class__"))) (et5:W.mroIn K CT (.type "object")=some true) (et6:W.mroIn K CT (.type "BaseException")=some true)
  (et7:W.mroIn K CT (.ref CT)=some true) (et8:W.mroIn K CT (.type "ValueError")=some true)
  (mt0:W.mroIn K CT (.ref CB)=some false)
  (mt1:W.mroIn K CT (.ref D1)=some false)
  (mt2:W.mroIn K CT (.ref CO)=some false)
  (mt3:W.mroIn K CT (.ref D3)=some false)
  (mt4:W.mroIn K CT (.ref CT)=some true)
  (mt5:W.mroIn K CT (.ref D5)=some false)
  (mt6:W.mroIn K CT (.ref D6)=some false)
  (m8:W.nsIn K mainGlobals "MOST_THINGS"=some (some (.int 8 t8))) (m0:W.nsIn K mainGlobals "NO_ROOM"=some (some (.int 0 t0))) (m1:W.nsIn K mainGlobals "END"=some (some (.int 1 t1))) (m2:W.nsIn K mainGlobals "LOWEST"=some (some (.int 2 t2))) (mf:W.nsIn K mainGlobals "FIGURES"=some (some (.str "0123456789" tf))) (mm:W.nsIn K mainGlobals "MOST_FIGURES"=some (some (.int 15 tm)))
  (z0:W.nsIn K mainGlobals "isinstance"=some none)
  (z1:W.nsIn K mainGlobals "int"=some none)
  (z2:W.nsIn K mainGlobals "bool"=some none)
  (z3:W.nsIn K mainGlobals "tuple"=some none)
  (z4:W.nsIn K mainGlobals "list"=some none)
  (z5:W.nsIn K mainGlobals "range"=some none)
  (z6:W.nsIn K mainGlobals "sorted"=some none)
  (z7:W.nsIn K mainGlobals "all"=some none)
  (z8:W.nsIn K mainGlobals "len"=some none)
  (z9:W.nsIn K mainGlobals "enumerate"=some none)
  (z10:W.nsIn K mainGlobals "set"=some none)
  (z11:W.nsIn K mainGlobals "ValueError"=some none)
  (z12:W.nsIn K mainGlobals "str"=some none)
  : ∃fd:FuncData,(∀(s:Shared) (v:Value),BindsTo s fd ⟨[v],[]⟩ [("_law_script",v)])∧∀base:Heap,K.In base->base.Ns mainGlobals mg->FnOk l.prog w K mg base CX0 14 fa fd ["_law_script"] (ou K):=by
 have e:=hfa.symm.trans (W.mg_of X G d32.ns)
 cases e
 have T0:Txt K mg CO:=⟨⟨W.mg_of X G na2,xo⟩,⟨t8,W.mg_of X G m8⟩,W.mg_none_of X G z0,W.mg_none_of X G z1,W.mg_none_of X G z2,W.mg_none_of X G z3,W.mg_none_of X G z4,W.mg_none_of X G z5,W.mg_none_of X G z6,W.mg_none_of X G z7,W.mg_none_of X G z8,W.mg_none_of X G z9⟩
 have T:TxB K mg CO:=⟨T0,⟨t0,W.mg_of X G m0⟩,⟨t1,W.mg_of X G m1⟩,⟨t2,W.mg_of X G m2⟩,W.mg_none_of X G z10⟩
 have BB:OwnX K mg "BadBook" CB:=⟨W.mg_of X G na0,xb⟩
 have TT:TxT K mg CO CT:=⟨T,⟨W.mg_of X G na4,xt⟩,⟨tf,W.mg_of X G mf⟩,⟨tm,W.mg_of X G mm⟩⟩
 have TB:TrB K mg CB:=⟨W.mg_of X G na0,bnt,eb6,eb1,eb7⟩
 have E0:Tr K mg CE:=⟨W.mg_of X G cn,nt,xc,cl⟩
 have RfB:xX K mg CB:=⟨Kd.mk' X G eb7 na0 nc0 ny0 mb0,Kd.mk' X G eb7 na1 nc1 ny1 mb1,Kd.mk' X G eb7 na2 nc2 ny2 mb2,Kd.mk' X G eb7 na3 nc3 ny3 mb3,Kd.mk' X G eb7 na4 nc4 ny4 mb4,Kd.mk' X G eb7 na5 nc5 ny5 mb5,Kd.mk' X G eb7 na6 nc6 ny6 mb6,⟨eb1,eb2,eb3,eb4,eb5,eb6⟩,W.mg_none_of X G z11,uY eb8,rfl,rfl,fun i hi=>by lia,rfl⟩
 have RfT:xW K mg CT:=⟨Kd.mk' X G et7 na0 nc0 ny0 mt0,Kd.mk' X G et7 na1 nc1 ny1 mt1,Kd.mk' X G et7 na2 nc2 ny2 mt2,Kd.mk' X G et7 na3 nc3 ny3 mt3,Kd.mk' X G et7 na4 nc4 ny4 mt4,Kd.mk' X G et7 na5 nc5 ny5 mt5,Kd.mk' X G et7 na6 nc6 ny6 mt6,⟨et1,et2,et3,et4,et5,et6⟩,W.mg_none_of X G z11,uY et8,rfl,rfl,fun i hi=>by
   have:i=0∨i=1∨i=2∨i=3:=by lia
   rcases this with rfl|rfl|rfl|rfl <;> rfl,rfl⟩
 have c:ShC K C:=⟨⟨pg,hd,po,sa⟩,nR,nN⟩
 have M:Mk K C fi:=⟨ms,mi.mt.at_,mi.mt.fn,kc⟩
 have mC:=W.mg_of X G aC
 have bi:=mi.fn.binds (ps:=["self"]) fun _ _ _ _ _ _=>cf fun _=>rfl
 have bk:=mk.fn.binds (ps:=["self","room"]) fun _ _ _ _ _ _=>fv fun _ _=>rfl
 have b0:=d0.fn.binds (ps:=["value"]) fun _ _ _ _ _ _=>cf fun _=>rfl
 have b1:=d1.fn.binds (ps:=["many"]) fun _ _ _ _ _ _=>cf fun _=>rfl
 have b2:=d2.fn.binds (ps:=["many"]) fun _ _ _ _ _ _=>cf fun _=>rfl
 have b3:=d3.fn.binds (ps:=["many","order"]) fun _ _ _ _ _ _=>fv fun _ _=>rfl
 have b4:=d4.fn.binds (ps:=["door"]) fun _ _ _ _ _ _=>cf fun _=>rfl
 have b5:=d5.fn.binds (ps:=["door","things"]) fun _ _ _ _ _ _=>fv fun _ _=>rfl
 have b6:=d6.fn.binds (ps:=["book"]) fun _ _ _ _ _ _=>cf fun _=>rfl
 have b7:=d7.fn.binds (ps:=["many","things","first"]) fun _ _ _ _ _ _=>jO fun _ _ _=>rfl
 have b8:=d8.fn.binds (ps:=["many","room","number"]) fun _ _ _ _ _ _=>jO fun _ _ _=>rfl
 have b9:=d9.fn.binds (ps:=["room","things"]) fun _ _ _ _ _ _=>fv fun _ _=>rfl
 have b10:=d10.fn.binds (ps:=["many","rooms"]) fun _ _ _ _ _ _=>fv fun _ _=>rfl
 have b11:=d11.fn.binds (ps:=["rooms","number","walked"]) fun _ _ _ _ _ _=>jO fun _ _ _=>rfl
 have b12:=d12.fn.binds (ps:=["rooms","first"]) fun _ _ _ _ _ _=>fv fun _ _=>rfl
 have b13:=d13.fn.binds (ps:=["book"]) fun _ _ _ _ _ _=>cf fun _=>rfl
 have b14:=d14.fn.binds (ps:=["shelf","orders","place"]) fun _ _ _ _ _ _=>jO fun _ _ _=>rfl
 have b15:=d15.fn.binds (ps:=["many","orders"]) fun _ _ _ _ _ _=>fv fun _ _=>rfl
 have b16:=d16.fn.binds (ps:=["one","sign","other"]) fun _ _ _ _ _ _=>jO fun _ _ _=>rfl
 have b17:=d17.fn.binds (ps:=["room"]) fun _ _ _ _ _ _=>cf fun _=>rfl
 have b18:=d18.fn.binds (ps:=["book"]) fun _ _ _ _ _ _=>cf fun _=>rfl
 have b19:=d19.fn.binds (ps:=["text"]) fun _ _ _ _ _ _=>cf fun _=>rfl
 have b20:=d20.fn.binds (ps:=["text","sign"]) fun _ _ _ _ _ _=>fv fun _ _=>rfl
 have b21:=d21.fn.binds (ps:=["row"]) fun _ _ _ _ _ _=>cf fun _=>rfl
 have b22:=d22.fn.binds (ps:=["text"]) fun _ _ _ _ _ _=>cf fun _=>rfl
 have b23:=d23.fn.binds (ps:=["_law_script","_law_k"]) fun _ _ _ _ _ _=>fv fun _ _=>rfl
 have b24:=d24.fn.binds (ps:=["_law_script","_law_k"]) fun _ _ _ _ _ _=>fv fun _ _=>rfl
 have b25:=d25.fn.binds (ps:=["_law_many"]) fun _ _ _ _ _ _=>cf fun _=>rfl
 have b26:=d26.fn.binds (ps:=["_law_script","_law_k","_law_many"]) fun _ _ _ _ _ _=>jO fun _ _ _=>rfl
 have b27:=d27.fn.binds (ps:=["_law_kept"]) fun _ _ _ _ _ _=>cf fun _=>rfl
 have b28:=d28.fn.binds (ps:=["_law_book"]) fun _ _ _ _ _ _=>cf fun _=>rfl
 have b29:=d29.fn.binds (ps:=["_law_words"]) fun _ _ _ _ _ _=>cf fun _=>rfl
 have b30:=d30.fn.binds (ps:=["_law_text_here"]) fun _ _ _ _ _ _=>cf fun _=>rfl
 have b31:=d31.fn.binds (ps:=["_law_tried_here"]) fun _ _ _ _ _ _=>cf fun _=>rfl
 have b32:=d32.fn.binds (ps:=["_law_script"]) fun _ _ _ _ _ _=>cf fun _=>rfl
 refine⟨g32,fun s v=>?_,fun base _ _=>?_⟩
 ·obtain⟨oc,od,kV,doc,pm,an,cdv,ct,osl,rfl,lk,hcd⟩:=d32.fn.ex
  exact .of_eq rfl
 have Fi:=zR (P:=l.prog) (w:=w) (mg:=mg) (base:=base) mi.fn c
 have Fk:=zS (P:=l.prog) (w:=w) (base:=base) mk.fn T c
 have W0:=d0.dg l.prog w base X G b0 (wT d0.fn T.t)
 have W1:=d1.dg l.prog w base X G b1 (wU d1.fn T.t W0)
 have W2:=d2.dg l.prog w base X G b2 (wV d2.fn T.t W1)
 have W3:=d3.dg l.prog w base X G b3 (zd d3.fn T.t W2 W0)
 have W4:=d4.dg l.prog w base X G b4 (xC d4.fn T W0)
 have W5:=d5.dg l.prog w base X G b5 (rq d5.fn BB)
 have W6:=d6.dg l.prog w base X G b6 (vI d6.fn T BB W0 W1)
 have W7:=d7.dg l.prog w base X G b7 (vH d7.fn T BB)
 have W8:=d8.dg l.prog w base X G b8 (vJ d8.fn T BB W4)
 have W9:=d9.dg l.prog w base X G b9 (tZ d9.fn T BB W5)
 have W10:=d10.dg l.prog w base X G b10 (xG d10.fn T W8 W9)
 have W11:=fun n=>d11.dg l.prog w base X G b11 (sr d11.fn T b11 (W.mg_of X G d11.ns) n)
 have W12:=d12.dg l.prog w base X G b12 (vK 8 d12.fn T BB (W11 8))
 have W13:=d13.dg l.prog w base X G b13 (xH d13.fn W6 W10 W7 W12)
 have W14:=fun n=>d14.dg l.prog w base X G b14 (nI d14.fn T c mk.mt Fk bk b14 (W.mg_of X G d14.ns) n)
 have W15:=d15.dg l.prog w base X G b15 (vU d15.fn T c M Fi bi mC W2 W3 W14)
 have W16:=d16.dg l.prog w base X G b16 (xK d16.fn)
 have W17:=d17.dg l.prog w base X G b17 (xL d17.fn W16)
 have W18:=d18.dg l.prog w base X G b18 (ud d18.fn W13 W16 W17)
 have W19:=d19.dg l.prog w base X G b19 (xJ d19.fn TT)
 have W20:=d20.dg l.prog w base X G b20 (vO d20.fn TT W19)
 have W21:=d21.dg l.prog w base X G b21 (vP d21.fn TT W20)
 have W22:=d22.dg l.prog w base X G b22 (zM d22.fn TT TB W20 W21 W13)
 have W23:=d23.dg l.prog w base X G b23 (zZ d23.fn T)
 have W24:=d24.dg l.prog w base X G b24 (Bd d24.fn T W23)
 have W25:=d25.dg l.prog w base X G b25 (Be d25.fn T)
 have W26:=d26.dg l.prog w base X G b26 (Bf d26.fn T W25 W24)
 have W27:=d27.dg l.prog w base X G b27 (Ab d27.fn T)
 have W28:=d28.dg l.prog w base X G b28 (xM d28.fn (W.mg_none_of X G z12))
 have W29:=d29.dg l.prog w base X G b29 (xN d29.fn T (W.mg_none_of X G z12))
 have W30:=d30.dg l.prog w base X G b30 (vQ d30.fn T W29)
 have W31:=d31.dg l.prog w base X G b31 (zQ d31.fn TB W13)
 exact Bh d32.fn T E0 ont onb RfT RfB W24 W26 W15 W28 W18 W22 W30 W31 W27
theorem walk {l:W.OpenLaw}{q:Program}{loose:List Str}{XP:(Str->Option Value)->Heap->Prop}{YP:World->Heap->Prop}{d:DefRec}{K:Params->W.Frag}(hn:l.most=some 63) (hdf:d.params.defaults=[])
  (hY:∀(w:World) (h:Heap),YP w h->(K w.params).In h)
  (F:∀(w:World) (mg:Str->Option Value) (fa:Addr) (h:Heap),(K w.params).In h->h.Ns mainGlobals mg->mg d.name=some (.ref fa)->
   ∃fd:FuncData,(∀(s:Shared) (u:Value),BindsTo s fd ⟨[u],[]⟩ [("_law_script",u)])∧∀base:Heap,(K w.params).In base->base.Ns mainGlobals mg->FnOk l.prog w (K w.params) mg base CX0 14 fa fd ["_law_script"] (ou (K w.params))) :
  W.WalkO q loose XP YP l.row.toRowW d [] (fun f vs=>PySem.call f vs):=
 L2.yU (n:=63) (k:=14) (x:="_law_script") (CX:=fun _=>CX0) (sp:=fun w=>ou (K w.params)) hn (by decide) hdf ⟨rfl,by decide,by decide,rfl⟩ hY F (fun _ _ a ns hl _ hS=>⟨a,ns,rfl,hS,fun _=>rfl⟩) fun _ _ _ _ _ z=>z
end Ord
open PySem PySem.W PyProof.Rows
set_option maxRecDepth 100000 in
set_option maxHeartbeats 0 in
theorem PySem.Challenge.cw_ordernest_k60_texts_holds : PySem.Challenge.rw_ordernest_k60_texts.Holds := by
 w_on;refine holds_law (by kernel_rfl) λsaid=>?_
 refine holds_open (q:=Vw.jk) (loose:=[]) (Xt:=Vw.Xt) (XP:=XL Vw.jk []) (Yf:=Hook.obs Vw.H) (Ya:=Hook.val Vw.H)
  (YP:=Hook.says Vw.H) (N:=6116) Vw.Ep (Hook.of Vw.H) (Hook.keeps Vw.H) (fun s e=>xl_of s (Bool.and_eq_true_iff.mp (id e:(xlAt Vw.jk [] s&&recOk Vw.xY s)=true)).1) XL.keeps
  (by rfl) (by rfl) (by rfl) (fun s e=>recFacts_of (Bool.and_eq_true_iff.mp (id e:(xlAt Vw.jk [] s&&recOk Vw.xY s)=true)).2) (by rfl)
  (by assumption) (by decide +kernel) ⟨rfl,rfl,rfl,rfl,rfl,by decide +kernel⟩ ?hw ?hc
 (case hw=>w_witness2)
 refine Ord.walk (l:=PySem.Challenge.rw_ordernest_k60_texts) rfl rfl (fun w h Y=>W.kIn_of Y) ?F
 case F=>
  intro w mg fa h KX G hmg
  k_fill
  refine' Ord.Di KX G hmg (L2.bc ?a0 ?l0 ?c0 ?k0) (L2.bc ?a1 ?l1 ?c1 ?k1) (L2.bc ?a2 ?l2 ?c2 ?k2) (L2.bc ?a3 ?l3 ?c3 ?k3) (L2.bc ?a4 ?l4 ?c4 ?k4) (L2.bc ?a5 ?l5 ?c5 ?k5) (L2.bc ?a6 ?l6 ?c6 ?k6) (L2.bc ?a7 ?l7 ?c7 ?k7) (L2.bc ?a8 ?l8 ?c8 ?k8) (L2.bc ?a9 ?l9 ?c9 ?k9) (L2.bc ?a10 ?l10 ?c10 ?k10) (L2.bc ?a11 ?l11 ?c11 ?k11) (L2.bc ?a12 ?l12 ?c12 ?k12) (L2.bc ?a13 ?l13 ?c13 ?k13) (L2.bc ?a14 ?l14 ?c14 ?k14) (L2.bc ?a15 ?l15 ?c15 ?k15) (L2.bc ?a16 ?l16 ?c16 ?k16) (L2.bc ?a17 ?l17 ?c17 ?k17) (L2.bc ?a18 ?l18 ?c18 ?k18) (L2.bc ?a19 ?l19 ?c19 ?k19) (L2.bc ?a20 ?l20 ?c20 ?k20) (L2.bc ?a21 ?l21 ?c21 ?k21) (L2.bc ?a22 ?l22 ?c22 ?k22) (L2.bc ?a23 ?l23 ?c23 ?k23) (L2.bc ?a24 ?l24 ?c24 ?k24) (L2.bc ?a25 ?l25 ?c25 ?k25) (L2.bc ?a26 ?l26 ?c26 ?k26) (L2.bc ?a27 ?l27 ?c27 ?k27) (L2.bc ?a28 ?l28 ?c28 ?k28) (L2.bc ?a29 ?l29 ?c29 ?k29) (L2.bc ?a30 ?l30 ?c30 ?k30) (L2.bc ?a31 ?l31 ?c31 ?k31) (L2.bc ?a32 ?l32 ?c32 ?k32) ?aC (L2.yI ?ia ?ii ?il ?ic ?ik) (L2.yI ?ka ?ki ?kl ?kcc ?kk) ?pg ?hd ?po ?sa ?ms ?kc ?nR ?nN ?xo ?xb ?xt ?cn ?nt ?xc ?cl ?bnt ?na0 ?nc0 ?ny0 ?na1 ?nc1 ?ny1 ?na2 ?nc2 ?ny2 ?na3 ?nc3 ?ny3 ?na4 ?nc4 ?ny4 ?na5 ?nc5 ?ny5 ?na6 ?nc6 ?ny6 ?onb ?eb1 ?eb2 ?eb3 ?eb4 ?eb5 ?eb6 ?eb7 ?eb8 ?mb0 ?mb1 ?mb2 ?mb3 ?mb4 ?mb5 ?mb6 ?ont ?et1 ?et2 ?et3 ?et4 ?et5 ?et6 ?et7 ?et8 ?mt0 ?mt1 ?mt2 ?mt3 ?mt4 ?mt5 ?mt6 ?m8 ?m0 ?m1 ?m2 ?mf ?mm ?z0 ?z1 ?z2 ?z3 ?z4 ?z5 ?z6 ?z7 ?z8 ?z9 ?z10 ?z11 ?z12
  case a0|l0|c0|k0|a1|l1|c1|k1|a2|l2|c2|k2|a3|l3|c3|k3|a4|l4|c4|k4|a5|l5|c5|k5|a6|l6|c6|k6|a7|l7|c7|k7|a8|l8|c8|k8|a9|l9|c9|k9|a10|l10|c10|k10|a11|l11|c11|k11|a12|l12|c12|k12|a13|l13|c13|k13|a14|l14|c14|k14|a15|l15|c15|k15|a16|l16|c16|k16|a17|l17|c17|k17|a18|l18|c18|k18|a19|l19|c19|k19|a20|l20|c20|k20|a21|l21|c21|k21|a22|l22|c22|k22|a23|l23|c23|k23|a24|l24|c24|k24|a25|l25|c25|k25|a26|l26|c26|k26|a27|l27|c27|k27|a28|l28|c28|k28|a29|l29|c29|k29|a30|l30|c30|k30|a31|l31|c31|k31|a32|l32|c32|k32|aC|ia|ii|il|ic|ik|ka|ki|kl|kcc|kk|pg|hd|po|sa|ms|kc|nR|nN|na2|na0|na4=>k_is
  (case xo=>k_exc);(case xb=>k_exc);(case xt=>k_exc);(case cn=>k_is);(case nt=>k_is);(case xc=>k_is);(case cl=>k_is);(case bnt=>k_is);(case nc0=>k_is);(case ny0=>k_is);(case na1=>k_is);(case nc1=>k_is);(case ny1=>k_is);(case nc2=>k_is);(case ny2=>k_is);(case na3=>k_is);(case nc3=>k_is);(case ny3=>k_is);(case nc4=>k_is);(case ny4=>k_is);(case na5=>k_is);(case nc5=>k_is);(case ny5=>k_is);(case na6=>k_is);(case nc6=>k_is);(case ny6=>k_is);(case onb=>k_is);(case eb1=>k_is);(case eb2=>k_is);(case eb3=>k_is);(case eb4=>k_is);(case eb5=>k_is);(case eb6=>k_is);(case eb7=>k_is);(case eb8=>k_is);(case mb0=>k_is);(case mb1=>k_is);(case mb2=>k_is);(case mb3=>k_is);(case mb4=>k_is);(case mb5=>k_is);(case mb6=>k_is);(case ont=>k_is);(case et1=>k_is);(case et2=>k_is);(case et3=>k_is);(case et4=>k_is);(case et5=>k_is);(case et6=>k_is);(case et7=>k_is);(case et8=>k_is);(case mt0=>k_is);(case mt1=>k_is);(case mt2=>k_is);(case mt3=>k_is);(case mt4=>k_is);(case mt5=>k_is);(case mt6=>k_is);(case m8=>k_is);(case m0=>k_is);(case m1=>k_is);(case m2=>k_is);(case mf=>k_is);(case mm=>k_is)
  case z0|z1|z2|z3|z4|z5|z6|z7|z8|z9|z10|z11|z12=>k_is