import PyProof.Rows.All
import Wide.All
import OpenK.AllK
import Wide.FinOn
import PyProof.EqAt
import PyProof.EqKinds
import PyProof.TupleCall
import KE.BitLaws
import Open.SpecLaws
import KE.OsHead
import KE.OsGo
import KE.KEqDict
import PyProof.ZipIter
import PyProof.WalksMore
import PyProof.ExcInit
import PyProof.ExcArgsOwn
import PyProof.InstLoad
import PyProof.InstStoreFacts
import PySem.Challenge.RW_lutefingers_s05_judge
set_option linter.all false
set_option Elab.async false
section
set_option maxRecDepth 100000
namespace L2
open PySem PySem.Spec PyProof.Rows
abbrev Key:=Sum Int Str
def j9:Key->Value->Bool
 | .inl k,v=>Value.isInt k v
 | .inr x,v=>Value.isStrOf x v
def Ac (w:World):Key->Int
 | .inl k=>hashInt k
 | .inr x=>hashStr w x
theorem keyIs_shape:∀{k:Key}{v:Value},j9 k v=true->(∃i t,k=Sum.inl i/\v=Value.int i t)∨(∃x t,k=Sum.inr x/\v=Value.str x t)
 | .inl i,v,h=>by
  obtain⟨t,e⟩:=Value.isInt_shape (k:=i) (v:=v) h
  exact .inl ⟨i,t,rfl,e⟩
 | .inr x,v,h=>by
  obtain⟨t,e⟩:=Value.isStrOf_shape (x:=x) (v:=v) h
  exact .inr ⟨x,t,rfl,e⟩
theorem sY (i:Int) (t:Tok):j9 (.inl i) (.int i t)=true:=by simp[j9,Value.isInt]
theorem sX (x:Str) (t:Tok):j9 (.inr x) (.str x t)=true:=by simp[j9,Value.isStrOf]
theorem yH (a b:Int):decide ((Sum.inl a:Key)=Sum.inl b)=(a==b):=by
 by_cases e:a=b
 ·subst e;simp
 ·have h:¬(Sum.inl a:Key)=Sum.inl b:=fun q=>e (Sum.inl.inj q)
  rw[decide_eq_false h]
  exact (beq_eq_false_iff_ne.mpr e).symm
theorem yE (a b:Str):decide ((Sum.inr a:Key)=Sum.inr b)=decide (a=b):=by
 by_cases e:a=b
 ·subst e;simp
 ·have h:¬(Sum.inr a:Key)=Sum.inr b:=fun q=>e (Sum.inr.inj q)
  rw[decide_eq_false h,decide_eq_false e]
theorem yG (a:Int) (b:Str):decide ((Sum.inl a:Key)=Sum.inr b)=false:=decide_eq_false (fun q=>nomatch q)
theorem yF (a:Str) (b:Int):decide ((Sum.inr a:Key)=Sum.inl b)=false:=decide_eq_false (fun q=>nomatch q)
def bf (prog:Program) (w:World):PySem.KeyKind prog w Key where
 is:=j9
 hash:=Ac w
 inj:=fun v a b ha hb=>by
  rcases keyIs_shape ha with ⟨i,t,rfl,rfl⟩ | ⟨x,t,rfl,rfl⟩
  ·rcases keyIs_shape hb with ⟨j,u,rfl,e⟩ | ⟨y,u,rfl,e⟩
   ·injection e with e1 _;rw[e1]
   ·exact nomatch e
  ·rcases keyIs_shape hb with ⟨j,u,rfl,e⟩ | ⟨y,u,rfl,e⟩
   ·exact nomatch e
   ·injection e with e1 _;rw[e1]
 byValue:=fun k v h=>by
  rcases keyIs_shape h with ⟨i,t,rfl,rfl⟩ | ⟨x,t,rfl,rfl⟩ <;> rfl
 pyHash:=fun hv h=>by
  rcases keyIs_shape hv with ⟨i,t,rfl,rfl⟩ | ⟨x,t,rfl,rfl⟩
  ·exact wpAny_pyHash_int h
  ·exact wpAny_pyHash_str h
 eqBool:=fun hu hv h=>by
  rcases keyIs_shape hu with ⟨i,t,rfl,rfl⟩ | ⟨x,t,rfl,rfl⟩
  ·rcases keyIs_shape hv with ⟨j,u,rfl,rfl⟩ | ⟨y,u,rfl,rfl⟩
   ·rw[yH] at h;exact wpAny_eqBool_int h
   ·rw[yG] at h;exact SeqAt.EqAt.int_str i t y u _ _ _ _ h
  ·rcases keyIs_shape hv with ⟨j,u,rfl,rfl⟩ | ⟨y,u,rfl,rfl⟩
   ·rw[yF] at h;exact SeqAt.EqAt.str_int x t j u _ _ _ _ h
   ·rw[yE] at h;exact wpAny_eqBool_str h
 «strs»:=fun k x t v h=>by
  rcases keyIs_shape h with ⟨i,u,rfl,e⟩ | ⟨y,u,rfl,e⟩
  ·exact nomatch e
  ·injection e with e1 _
   subst e1
   cases v <;> rfl
theorem pQ (prog:Program) (w:World) (k:Key) (v:Value):(bf prog w).is k v=j9 k v:=rfl
theorem og (prog:Program) (w:World) (i:Int) (t:Tok):(bf prog w).is (.inl i) (.int i t)=true:=sY i t
theorem oa (prog:Program) (w:World) (x:Str) (t:Tok):(bf prog w).is (.inr x) (.str x t)=true:=sX x t
inductive V where
 | non | bl (b:Bool) | int (i:Int) | str (x:Str) | byt (b:Array UInt8) | flt (b:UInt64) | ref (a:Addr) | ty (n:String)
 deriving DecidableEq
def RelV:V->Value->Prop
 | .non,u=>u=Value.none
 | .bl b,u=>u=Value.bool b
 | .int i,u=>∃t,u=Value.int i t
 | .str x,u=>∃t,u=Value.str x t
 | .byt b,u=>∃t,u=Value.bytes b t
 | .flt b,u=>∃t,u=Value.float b t
 | .ref a,u=>u=Value.ref a
 | .ty n,u=>u=Value.type n
abbrev Vals:List V->List Value->Prop:=Paired RelV
theorem Vals.length {xs:List V}{us:List Value} (r:Vals xs us):xs.length=us.length:=Paired.length r
theorem Vals.get:∀{xs:List V}{us:List Value}{i:Nat}{x:V},Vals xs us->xs[i]?=some x->∃u,us[i]?=some u/\RelV x u
 | _,_,_,_,.nil,e=>by simp at e
 | _,_,0,_,.cons r _,e=>by simp at e;subst e;exact⟨_,rfl,r⟩
 | _,_,i+1,x,.cons _ t,e=>by
  obtain⟨u,h1,h2⟩:=Vals.get (i:=i) (x:=x) t (by simpa using e)
  exact⟨u,by simpa using h1,h2⟩
theorem Vals.append:∀{xs ys:List V}{us ws:List Value},Vals xs us->Vals ys ws->Vals (xs++ys) (us++ws)
 | _,_,_,_,.nil,s=>s
 | _,_,_,_,.cons r t,s=>.cons r (Vals.append t s)
theorem Vals.take:∀{xs:List V}{us:List Value} (n:Nat),Vals xs us->Vals (xs.take n) (us.take n)
 | _,_,0,_=>.nil
 | _,_,_+1,.nil=>.nil
 | _,_,n+1,.cons r t=>.cons r (Vals.take n t)
theorem Vals.drop:∀{xs:List V}{us:List Value} (n:Nat),Vals xs us->Vals (xs.drop n) (us.drop n)
 | _,_,0,r=>r
 | _,_,_+1,.nil=>.nil
 | _,_,n+1,.cons _ t=>Vals.drop n t
def RelO:Option V->Option Value->Prop
 | some v,some u=>RelV v u
 | none,none=>True
 | _,_=>False
def KV {κ:Type}:List (κ×V)->List (κ×Value)->Prop:=Paired fun (p:κ×V) (q:κ×Value)=>p.1=q.1/\RelV p.2 q.2
def kV:Key->V
 | .inl i=>.int i
 | .inr x=>.str x
def IsTupD (h:Heap) (a:Addr) (items:Array Value):Prop:=∃o,h.get? a=some o/\o.cls=.type "tuple"/\(∃n,o.data=.seq items n)/\o.dict=none
theorem IsTupD.tup {h:Heap}{a:Addr}{items:Array Value} (x:IsTupD h a items):IsTup h a items:=by
 obtain⟨o,e,c,d,_⟩:=x
 exact⟨o,e,c,d⟩
theorem IsTupD.new (h:Heap) (items:Array Value):IsTupD (h.push {cls:=.type "tuple",data:=.seq items}) h.objs.size items:=⟨_,Heap.get?_push_size _ rfl,rfl,⟨_,rfl⟩,rfl⟩
inductive HO where
 | lst (xs:List V)
 | tup (xs:List V)
 | dK (kvs:List (Key×V)) | dT (kvs:List (List Key×V))
 | set (S:Int->Bool) (n:Nat)
 | ins (C dx:Addr) (fs:List (Str×V))
 | own (x:Addr)
 | xd (fs:List (Str×V))
 | met (f x:Addr)
 | rng (lo hi:Int)
 | frz (o:Obj) (u:HO)
 | tbl (ps:Array Value)
 | ext (φ:Heap->Prop)
abbrev Hp:=Addr->Option HO
def upd (H:Hp) (a:Addr) (o:HO):Hp:=fun b=>if b=a then some o else H b
theorem ac {H:Hp}{a:Addr}{o:HO}:upd H a o a=some o:=by unfold upd;rw[if_pos rfl]
theorem ai {H:Hp}{a b:Addr}{o:HO} (h:b≠a):upd H a o b=H b:=by unfold upd;rw[if_neg h]
theorem cT {H:Hp}{a b:Addr}{o u:HO} (h:H a=some o) (h':H b=some u) (d:o≠u):a≠b:=by
 intro e;subst e;rw[h] at h';exact d (Option.some.inj h')
theorem af {H:Hp}{a b:Addr}{o:HO} (h:H a=some o) (h':H b=none):a≠b:=by
 intro e;subst e;rw[h] at h';cases h'
section
variable (P:Program) (w:World)
def ObjOk (H:Hp) (h:Heap) (a:Addr):HO->Prop
 | .lst xs=>xs.length<=sizeLine/\∃(its:List Value) (n:Nat),Vals xs its/\h.get? a=some {cls:=.type "list",data:=.seq its.toArray n}
 | .tup xs=>xs.length<=sizeLine/\∃its:List Value,Vals xs its/\IsTupD h a its.toArray
 | .dK kvs=>kvs.length<=sizeLine/\(a==sysModules)=false/\∃vs,KV kvs vs/\h.DictOf (bf P w) a vs
 | .dT kvs=>kvs.length<=sizeLine/\(a==sysModules)=false/\∃xs:List (List Key×Addr×Value),
   Paired (fun (p:List Key×V) (q:List Key×Addr×Value)=>p.1=q.1/\H q.2.1=some (.tup (p.1.map kV))/\RelV p.2 q.2.2) kvs xs /\
   ∃o es ep,h.get? a=some o/\o.ExactDict/\o.data=.dict es ep/\es.toList=xs.map (entryOfKey (tupleKind (bf P w)))/\(xs.map (·.1)).Nodup
 | .set S n=>h.SetOf (intKind P w) a S n
 | .ins C dx fs=>H dx=some (.own a)/\fs.length<=1000/\dx≠a/\h.get? a=some (W.instObj C dx) /\
   ∃mA,h.Ns1 dx mA/\(∀f,RelO (fs.lookup f) (mA f))/\PySem.Within mA (fs.map (·.1))
 | .own _=>∃o,h.get? a=some o
 | .xd fs=>∃mA,h.Ns1 a mA/\∀f,RelO (fs.lookup f) (mA f)
 | .rng lo hi=>∃t u v,h.get? a=some {cls:=.type "range",data:=.fields #[.int lo t,.int hi u,.int 1 v]}
 | .frz o u=>h.get? a=some o/\ObjOk H h a u
 | .tbl ps=>h.get? a=some {cls:=.none,data:=.fields ps}
 | .met f x=>h.get? a=some (W.methodObj (.ref f) (.ref x))
 | .ext φ=>φ h/\(∃o,h.get? a=some o)/\∀h1 h2:Heap,φ h1->(∀o,h1.get? a=some o->h2.get? a=some o)->φ h2
def HOk (H:Hp) (h:Heap):Prop:=∀a o,H a=some o->ObjOk P w H h a o
end
section
variable {P:Program}{w:World}{H H':Hp}{h h':Heap}{a:Addr}{o:HO}
theorem ObjOk.lt (x:ObjOk P w H h a o):a<h.objs.size:=by
 cases o with
 | lst xs=>obtain⟨_,_,_,_,e⟩:=x;exact Heap.lt_size e
 | tup xs=>obtain⟨_,_,_,p⟩:=x;exact p.tup.lt
 | dK kvs=>obtain⟨_,_,_,_,o,_,_,e,_⟩:=x;exact Heap.lt_size e
 | dT kvs=>obtain⟨_,_,_,_,o,_,_,e,_⟩:=x;exact Heap.lt_size e
 | set S n=>obtain⟨o,_,_,_,e,_⟩:=x;exact Heap.lt_size e
 | ins C dx fs=>obtain⟨_,_,_,e,_⟩:=x;exact Heap.lt_size e
 | own y=>obtain⟨_,e⟩:=x;exact Heap.lt_size e
 | xd fs=>obtain⟨_,⟨_,_,_,e,_⟩,_⟩:=x;exact Heap.lt_size e
 | rng lo hi=>obtain⟨_,_,_,e⟩:=x;exact Heap.lt_size e
 | frz ob u=>obtain⟨e,_⟩:=x;exact Heap.lt_size e
 | tbl ps=>exact Heap.lt_size (show h.get? a=some _ from x)
 | met f y=>exact Heap.lt_size (show h.get? a=some _ from x)
 | ext φ=>obtain⟨_,⟨_,e⟩,_⟩:=x;exact Heap.lt_size e
theorem Paired.mapP {α β:Type}{F G:α->β->Prop}:∀{l₁:List α}{l₂:List β},Paired F l₁ l₂->(∀a b,F a b->G a b)->Paired G l₁ l₂
 | _,_,.nil,_=>.nil
 | _,_,.cons r t,f=>.cons (f _ _ r) (Paired.mapP t f)
theorem ObjOk.stay (x:ObjOk P w H h a o) (k:∀b u,(b=a∨H b=some (.own a))->h.get? b=some u->h'.get? b=some u)
  (ho:∀b,H b=some (.own a)->H' b=some (.own a)) (ht:∀b xs,H b=some (.tup xs)->H' b=some (.tup xs)):ObjOk P w H' h' a o:=by
 induction o with
 | lst xs=>obtain⟨z,its,n,r,e⟩:=x;exact⟨z,its,n,r,k _ _ (.inl rfl) e⟩
 | tup xs=>obtain⟨z,its,r,ob,e,c⟩:=x;exact⟨z,its,r,ob,k _ _ (.inl rfl) e,c⟩
 | dK kvs=>obtain⟨z,y,vs,r,ob,es,ep,e,c⟩:=x;exact⟨z,y,vs,r,ob,es,ep,k _ _ (.inl rfl) e,c⟩
 | dT kvs =>
  obtain⟨z,y,xs,r,ob,es,ep,e,c⟩:=x
  exact⟨z,y,xs,Paired.mapP r fun p q z=>⟨z.1,ht _ _ z.2.1,z.2.2⟩,ob,es,ep,k _ _ (.inl rfl) e,c⟩
 | set S n=>obtain⟨ob,es,ep,t,e,c⟩:=x;exact⟨ob,es,ep,t,k _ _ (.inl rfl) e,c⟩
 | ins C dx fs =>
  obtain⟨d,z,ne,e,mA,⟨od,es,ep,e2,c⟩,r⟩:=x
  exact⟨ho _ d,z,ne,k _ _ (.inl rfl) e,mA,⟨od,es,ep,k _ _ (.inr d) e2,c⟩,r⟩
 | own y=>obtain⟨ob,e⟩:=x;exact⟨ob,k _ _ (.inl rfl) e⟩
 | xd fs=>obtain⟨mA,⟨od,es,ep,e,c⟩,r⟩:=x;exact⟨mA,⟨od,es,ep,k _ _ (.inl rfl) e,c⟩,r⟩
 | rng lo hi=>obtain⟨t,u,v,e⟩:=x;exact⟨t,u,v,k _ _ (.inl rfl) e⟩
 | frz ob u ih=>obtain⟨e,q⟩:=x;exact⟨k _ _ (.inl rfl) e,ih q⟩
 | tbl ps =>
  have e:h.get? a=some {cls:=.none,data:=.fields ps}:=x
  show h'.get? a=some {cls:=.none,data:=.fields ps}
  exact k a _ (.inl rfl) e
 | met f y =>
  have e:h.get? a=some (W.methodObj (.ref f) (.ref y)):=x
  show h'.get? a=some (W.methodObj (.ref f) (.ref y))
  exact k a _ (.inl rfl) e
 | ext φ=>obtain⟨p,⟨o,e⟩,st⟩:=x;exact⟨st _ _ p fun o q=>k _ _ (.inl rfl) q,⟨o,k _ _ (.inl rfl) e⟩,st⟩
theorem HOk.lt (x:HOk P w H h) (e:H a=some o):a<h.objs.size:=(x a o e).lt
theorem HOk.fresh (x:HOk P w H h) (e:h.objs.size<=a):H a=none:=by
 cases q:H a with
 | none=>rfl
 | some u=>exact absurd (Nat.lt_of_lt_of_le (x.lt q) e) (Nat.lt_irrefl _)
theorem HOk.kept (x:HOk P w H h) (k:∀b u,h.get? b=some u->h'.get? b=some u):HOk P w H h':=fun a o e =>
 (x a o e).stay (fun b u _ q=>k b u q) (fun _ q=>q) fun _ _ q=>q
theorem HOk.laid (x:HOk P w H h) (k:∀b u,h.get? b=some u->h'.get? b=some u) (hp:h.objs.size<=a) (new:ObjOk P w (upd H a o) h' a o):HOk P w (upd H a o) h':=fun b u e=>by
 have hn:=x.fresh hp
 by_cases hb:b=a
 ·subst hb;rw[ac] at e;cases e;exact new
 ·rw[ai hb] at e
  exact (x b u e).stay (fun c v _ q=>k c v q) (fun c q=>by rw[ai (af q hn)];exact q) fun c xs q=>by rw[ai (af q hn)];exact q
end
def Rd (H:Hp) (a:Addr) (u:HO):Prop:=H a=some u∨∃o,H a=some (.frz o u)
theorem Rd.ok {P:Program}{w:World}{H:Hp}{h:Heap}{a:Addr}{u:HO} (r:Rd H a u) (x:HOk P w H h):ObjOk P w H h a u:=by
 rcases r with r | ⟨o,r⟩
 ·exact x a u r
 ·obtain⟨_,q⟩:=x a _ r
  exact q
def Mut:Option HO->Prop
 | some (.lst _)=>True
 | some (.dK _)=>True
 | some (.dT _)=>True
 | some (.set _ _)=>True
 | some (.ins _ _ _)=>True
 | some (.ext _)=>True
 | _=>False
section
variable {P:Program}{w:World}{H:Hp}{h h':Heap}{x e:Addr}{o':HO}
theorem HOk.write (ok:HOk P w H h) (mu:Mut (H x)) (he:e=x∨H e=some (.own x)) (k:∀b u,b≠e->h.get? b=some u->h'.get? b=some u) (heo:∃u,h'.get? e=some u)
  (new:ObjOk P w (upd H x o') h' x o'):HOk P w (upd H x o') h':=fun b u q=>by
 have nown:∀c y,H c=some (.own y)->c≠x:=fun c y r z=>by subst z;rw[r] at mu;exact mu
 have ntup:∀c xs,H c=some (.tup xs)->c≠x:=fun c xs r z=>by subst z;rw[r] at mu;exact mu
 by_cases hb:b=x
 ·subst hb;rw[ac] at q;cases q;exact new
 ·rw[ai hb] at q
  by_cases hbe:b=e
  ·have q':H b=some (.own x):=by
    rcases he with z | z
    ·exact absurd (hbe.trans z) hb
    ·rw[hbe];exact z
   rw[q] at q';cases q'
   obtain⟨v,hv⟩:=heo
   exact⟨v,by rw[hbe];exact hv⟩
  ·refine (ok b u q).stay (fun c v hc r=>k c v ?_ r) (fun c r=>by rw[ai (nown c b r)];exact r) fun c xs r=>by rw[ai (ntup c xs r)];exact r
   rcases hc with rfl | hc
   ·exact hbe
   ·rintro rfl
    rcases he with z | z
    ·exact nown c b hc z
    ·rw[hc] at z;cases z;exact hb rfl
end
structure Un (fs ex:List Addr) (H H':Hp) (h h':Heap):Prop where
 keep:∀b o,h.get? b=some o->H b=none->b∉fs->b∉ex->h'.get? b=some o
 slot:∀b o,h.get? b=some o->H b=none->b∈fs->b∉ex->∃sl,h'.get? b=some {o with slots:=sl}
 free:∀b o,h.get? b=some o->H b=none->b∉ex->H' b=none
 there:∀b o,h.get? b=some o->b∉ex->∃o',h'.get? b=some o'
 tups:∀b xs,H b=some (.tup xs)->H' b=some (.tup xs)
 frzs:∀b o u,H b=some (.frz o u)->H' b=some (.frz o u)
 tbls:∀b ps,H b=some (.tbl ps)->∃more,H' b=some (.tbl (ps++more))
section
variable {fs fs' ex ex':List Addr}{H H1 H2:Hp}{h h1 h2 h':Heap}{a x e:Addr}{o:HO}
theorem Un.any (u:Un fs ex H H1 h h1) {b:Addr}{ob:Obj} (q:h.get? b=some ob) (n:H b=none) (hx:b∉ex):∃sl,h1.get? b=some {ob with slots:=sl}:=by
 by_cases hb:b∈fs
 ·exact u.slot b ob q n hb hx
 ·exact⟨ob.slots,u.keep b ob q n hb hx⟩
theorem Un.kept (k:∀b u,h.get? b=some u->h'.get? b=some u):Un fs ex H H h h' :=
 ⟨fun b ob q _ _ _=>k b ob q,fun b ob q _ _ _=>⟨ob.slots,k b ob q⟩,fun _ _ _ n _=>n,fun b ob q _=>⟨ob,k b ob q⟩,fun _ _ q=>q,fun _ _ _ q=>q,fun _ ps q=>⟨#[],by rw[q];simp⟩⟩
theorem Un.refl:Un fs ex H H h h:=Un.kept fun _ _ q=>q
theorem Un.laid (k:∀b u,h.get? b=some u->h'.get? b=some u) (hp:h.objs.size<=a) (hn:H a=none):Un fs ex H (upd H a o) h h' where
 keep:=fun b u q _ _ _=>k b u q
 slot:=fun b u q _ _ _=>⟨u.slots,k b u q⟩
 free:=fun b u q n _=>by rw[ai (Nat.ne_of_lt (Nat.lt_of_lt_of_le (Heap.lt_size q) hp))];exact n
 there:=fun b u q _=>⟨u,k b u q⟩
 tups:=fun b xs q=>by rw[ai (af q hn)];exact q
 frzs:=fun b u xs q=>by rw[ai (af q hn)];exact q
 tbls:=fun b ps q=>⟨#[],by rw[ai (af q hn),q];simp⟩
theorem Un.write (mu:Mut (H x)) (he:e=x∨H e=some (.own x)) (k:∀b u,b≠e->h.get? b=some u->h'.get? b=some u) (heo:∃u,h'.get? e=some u):Un fs ex H (upd H x o) h h':=by
 have hx:∀b,H b=none->b≠x:=fun b n z=>by subst z;rw[n] at mu;exact mu
 have hb:∀b,H b=none->b≠e:=fun b n z=>by
  subst z
  rcases he with r | r
  ·exact hx b n r
  ·rw[n] at r;cases r
 have hm:∀b u,H b=some u->¬Mut (some u)->b≠x:=fun b u q nm z=>by subst z;rw[q] at mu;exact nm mu
 refine⟨fun b u q n _ _=>k b u (hb b n) q,fun b u q n _ _=>⟨u.slots,k b u (hb b n) q⟩,fun b u q n _=>by rw[ai (hx b n)];exact n,fun b u q _=>?_,
  fun b xs q=>by rw[ai (hm b _ q fun z=>z)];exact q,fun b u xs q=>by rw[ai (hm b _ q fun z=>z)];exact q,fun b ps q=>⟨#[],by rw[ai (hm b _ q fun z=>z),q];simp⟩⟩
 by_cases hbe:b=e
 ·subst hbe;exact heo
 ·exact⟨u,k b u hbe q⟩
end
def trk (h:Heap) (H:Hp):List Addr:=(List.range h.objs.size).filter fun a=>(H a).isSome
def mU (h:Heap) (H:Hp):Heap:=W.hideAll h (trk h H)
theorem tw (h:Heap) (H:Hp):(mU h H).objs.size=h.objs.size:=W.hideAll_size _ _
theorem vC {h:Heap}{H:Hp}{b:Addr}{o:Obj} (e:h.get? b=some o) (n:H b=none):(mU h H).get? b=some o :=
 W.hideAll_get _ e fun hm=>by
  have q:(H b).isSome=true:=(List.mem_filter.mp hm).2
  rw[n] at q;simp at q
theorem wR {h:Heap}{H:Hp}{b:Addr}{o:Obj} (e:(mU h H).get? b=some o):h.get? b=some o/\H b=none:=by
 have e':h.get? b=some o:=W.of_hideAll (trk h H) e
 refine⟨e',?_⟩
 cases q:H b with
 | none=>rfl
 | some x =>
  have hm:b∈trk h H:=List.mem_filter.mpr ⟨List.mem_range.mpr (Heap.lt_size e'),by simp[q]⟩
  have z:(mU h H).get? b=none:=W.hideAll_none (trk h H) hm
  rw[z] at e;cases e
structure Mod (K:W.Frag) (mg:Str->Option Value) (base:Heap):Prop where
 kin:K.In base
 glob:base.Ns mainGlobals mg
 blt:∃mb,base.Ns builtinsNs mb/\∀x:Str,x ≠ "__name__"->mb x=bootBuiltins x
 nolimit:base.NoLimit
structure Cx where
 prog:Program
 w:World
 K:W.Frag
 mg:Str->Option Value
 base:Heap
 A:Around
 N:List Str
 s_0:Shared
 H_0:Hp
 env:Env
 outer:List Env
 stack:List Env
 ex:List Addr
 fn:Str->Bool
 calm:Bool
 pn:List (Addr×Obj)
 xe:Value->Shared->Prop
def frs (l:List Env):List Addr:=l.filterMap (·.frame)
abbrev Cx.fs (X:Cx):List Addr:=frs X.outer
def Vis (sc:Scope) (x:Str):Prop:=sc.names.lookup x=some .local ∨ sc.names.lookup x=some .cell∨sc.names.lookup x=some .free
def Loc (sc:Scope) (x:Str):Prop:=sc.names.lookup x=some .local ∨ sc.names.lookup x=some .cell
def Look (env:Env) (h:Heap) (m:Str->Option Value) (x:Str) (u:Value):Prop :=
 (env.kindOf x=some .local /\ m x=some u)∨((env.kindOf x=some .cell∨env.kindOf x=some .free)/\∃c,env.cells.lookup x=some c/\h.IsCell c (some u))
structure Cx.Ok (X:Cx):Prop where
 mod:Mod X.K X.mg X.base
 kind:X.env.scope.kind=.function
 glob:X.env.globals=mainGlobals
 blt:X.env.builtins=builtinsNs
 above:X.s_0.heap.objs.size<=X.env.locals
 inj:∀x y c,X.env.cells.lookup x=some c->X.env.cells.lookup y=some c->x=y
 has:∀x,(X.env.kindOf x=some .cell∨X.env.kindOf x=some .free)->∃c,X.env.cells.lookup x=some c
 cab:∀x c,X.fn x=true->X.env.cells.lookup x=some c->X.s_0.heap.objs.size<=c
 hd:X.calm=true->X.A.handled=none
 frames:X.A.frames=some X.stack
 stk:X.stack=X.outer∨(X.stack=X.env::X.outer/\X.env.frame=some X.env.locals)
 exf:∀b∈X.ex,b≠X.env.locals/\∀x c,X.env.cells.lookup x=some c->c≠b
 bs:∀b o,X.base.get? b=some o->X.s_0.heap.get? b=some o/\X.H_0 b=none
 bsz:X.base.objs.size<=X.s_0.heap.objs.size
 noex:∀b o,X.base.get? b=some o->b∉X.ex
 exfs:∀b∈X.ex,b∉X.fs
 funs:X.s_0.heap.FunFrames X.base X.outer
 frf:∀b∈X.fs,X.H_0 b=none
structure Inv (X:Cx) (pins:List (Addr×Obj)) (σ:List (Option V)) (H:Hp) (s:Shared):Prop where
 ok:X.Ok
 os:s.os=X.s_0.os
 bare:AllBare s.gens
 base:Un X.fs X.ex X.H_0 H X.s_0.heap s.heap
 loc:∃m,s.heap.Ns X.env.locals m/\∀(i:Nat) (x:Str) (v:V),X.N[i]?=some x->σ[i]?=some (some v)->Vis X.env.scope x->∃u,RelV v u/\Look X.env s.heap m x u
 cell:∀x c,X.env.cells.lookup x=some c->∃v,s.heap.IsCell c v
 free:H X.env.locals=none
 freeC:∀x c,X.env.cells.lookup x=some c->H c=none
 pin:∀p∈X.pn++pins,s.heap.get? p.1=some p.2/\H p.1=none/\p.1≠X.env.locals/\p.1∉X.fs/\∀v,p.2.data≠.cell v
 hok:HOk X.prog X.w H s.heap
 len:σ.length=X.N.length
section
variable {X:Cx}{pins:List (Addr×Obj)}{σ:List (Option V)}{H H':Hp}{s:Shared}{h':Heap}
theorem Cx.Ok.nofr (ok:X.Ok) {b:Addr}{o:Obj} (e:X.base.get? b=some o):b∉X.fs:=fun hb=>by
 have:=(ok.funs.mem hb).1
 rw[e] at this;cases this
theorem Inv.bs (I:Inv X pins σ H s):∀b o,X.base.get? b=some o->s.heap.get? b=some o/\H b=none:=fun b o e =>
 ⟨I.base.keep b o (I.ok.bs b o e).1 (I.ok.bs b o e).2 (I.ok.nofr e) (I.ok.noex b o e),I.base.free b o (I.ok.bs b o e).1 (I.ok.bs b o e).2 (I.ok.noex b o e)⟩
theorem Inv.bk (I:Inv X pins σ H s):∀b o,X.base.get? b=some o->s.heap.get? b=some o:=fun b o e=>(I.bs b o e).1
theorem Inv.mod (I:Inv X pins σ H s):Mod X.K X.mg X.base:=I.ok.mod
theorem Inv.kIn (I:Inv X pins σ H s):X.K.In s.heap:=I.ok.mod.kin.keeps I.bk
theorem Inv.lt (I:Inv X pins σ H s):X.env.locals<s.heap.objs.size:=let ⟨_,hn,_⟩:=I.loc;hn.lt
theorem Inv.sz (I:Inv X pins σ H s):X.s_0.heap.objs.size<=s.heap.objs.size:=Nat.le_trans I.ok.above (Nat.le_of_lt I.lt)
theorem Inv.nofs (I:Inv X pins σ H s) {a:Addr} (h:s.heap.objs.size<=a):a∉X.fs:=fun hb=>by
 obtain⟨_,o,ho,_⟩:=I.ok.funs.mem hb
 exact absurd (Nat.lt_of_lt_of_le (Heap.lt_size ho) (Nat.le_trans I.sz h)) (Nat.lt_irrefl _)
theorem Inv.cne (I:Inv X pins σ H s):∀x c,X.env.cells.lookup x=some c->c≠X.env.locals:=fun x c e z=>by
 obtain⟨v,o,ho,hd⟩:=I.cell x c e
 obtain⟨m,⟨o',es,ep,ho',hd',_⟩,_⟩:=I.loc
 rw[z,ho'] at ho;cases ho;rw[hd'] at hd;cases hd
theorem Inv.funs (I:Inv X pins σ H s):s.heap.FunFrames X.base X.outer:=by
 have all:∀(l:List Env),(∀b∈frs l,b∈X.fs)->X.s_0.heap.FunFrames X.base l->s.heap.FunFrames X.base l:=by
  intro l
  induction l with
  | nil=>intro _ _;trivial
  | cons env r ih =>
   intro hs hl
   obtain⟨hk,⟨L,o,hf,hn,ho,hd⟩,hr⟩:=hl
   have hL:L∈X.fs:=hs L (by unfold frs;rw[List.filterMap_cons,hf];exact List.mem_cons_self)
   obtain⟨sl,e⟩:=I.base.slot L o ho (I.ok.frf L hL) hL fun z=>I.ok.exfs L z hL
   exact⟨hk,⟨L,_,hf,hn,e,hd⟩,ih (fun b hb=>hs b (by unfold frs;rw[List.filterMap_cons,hf];exact List.mem_cons_of_mem _ hb)) hr⟩
 exact all X.outer (fun _ hb=>hb) I.ok.funs
theorem Inv.stack (I:Inv X pins σ H s):s.heap.FunFrames X.base X.stack:=by
 rcases I.ok.stk with e | ⟨e,hf⟩
 ·rw[e];exact I.funs
 ·rw[e]
  obtain⟨m,hn,_⟩:=I.loc
  refine .cons (by rw[I.ok.kind];decide) hf hn ?_ I.funs
  exact Heap.get?_none_of_le (Nat.le_trans I.ok.bsz I.ok.above)
theorem Inv.stkSub (I:Inv X pins σ H s):∀b∈frs X.stack,b∈X.env.locals::X.fs:=fun b hb=>by
 rcases I.ok.stk with e | ⟨e,hf⟩
 ·rw[e] at hb;exact List.mem_cons_of_mem _ hb
 ·rw[e] at hb
  unfold frs at hb
  rw[List.filterMap_cons,hf] at hb
  exact hb
theorem Inv.stkFree (I:Inv X pins σ H s):∀b∈frs X.stack,H b=none:=fun b hb=>by
 rcases List.mem_cons.mp (I.stkSub b hb) with e | hb
 ·rw[e];exact I.free
 ·obtain⟨_,o,ho,_⟩:=I.ok.funs.mem hb
  exact I.base.free b o ho (I.ok.frf b hb) fun z=>I.ok.exfs b z hb
theorem Inv.step {g':Array GenState}{t':Nat}{d':Drawn}{ch:List Addr} (I:Inv X pins σ H s)
  (hch:∀b∈ch,(b∈X.ex∨X.s_0.heap.objs.size<=b)/\b≠X.env.locals/\(∀x c,X.env.cells.lookup x=some c->c≠b)/\∀p∈X.pn++pins,p.1≠b)
  (keep:∀b o,b≠X.env.locals->b∉X.fs->b∉ch->s.heap.get? b=some o->H b=none->h'.get? b=some o)
  (slot:∀b o,b≠X.env.locals->b∈X.fs->b∉ch->s.heap.get? b=some o->H b=none->∃sl,h'.get? b=some {o with slots:=sl}) (free:∀b o,b∉ch->s.heap.get? b=some o->H b=none->H' b=none)
  (there:∀b o,b∉ch->s.heap.get? b=some o->∃o',h'.get? b=some o')
  (tups:∀b xs,H b=some (.tup xs)->H' b=some (.tup xs)) (frzs:∀b o u,H b=some (.frz o u)->H' b=some (.frz o u)) (tbls:∀b ps,H b=some (.tbl ps)->∃more,H' b=some (.tbl (ps++more)))
  (ns:∀m,s.heap.Ns X.env.locals m->h'.Ns X.env.locals m) (hok:HOk X.prog X.w H' h') (hg:AllBare g') :
  Inv X pins σ H' {s with heap:=h',gens:=g',drawn:=d',toks:=t'}:=by
 have neL:∀b o,X.s_0.heap.get? b=some o->b≠X.env.locals:=fun b o e=>Nat.ne_of_lt (Nat.lt_of_lt_of_le (Heap.lt_size e) I.ok.above)
 have neC:∀b o,X.s_0.heap.get? b=some o->b∉X.ex->b∉ch:=fun b o e hx hb=>by
  rcases (hch b hb).1 with z | z
  ·exact hx z
  ·exact absurd (Nat.lt_of_lt_of_le (Heap.lt_size e) z) (Nat.lt_irrefl _)
 have cellK:∀x c,X.env.cells.lookup x=some c->∀v,s.heap.IsCell c v->h'.IsCell c v:=fun x c e v ⟨o,ho,hd⟩=>by
  have nch:c∉ch:=fun z=>(hch c z).2.2.1 x c e rfl
  by_cases hc:c∈X.fs
  ·obtain⟨sl,q⟩:=slot c o (I.cne x c e) hc nch ho (I.freeC x c e)
   exact⟨_,q,hd⟩
  ·exact⟨o,keep c o (I.cne x c e) hc nch ho (I.freeC x c e),hd⟩
 refine⟨I.ok,I.os,hg,⟨fun b o e n hb hx=>?_,fun b o e n hb hx=>?_,fun b o e n hx=>?_,fun b o e hx=>?_,fun b xs e=>tups b xs (I.base.tups b xs e),fun b o xs e=>frzs b o xs (I.base.frzs b o xs e),fun b ps e=>?_⟩,?_,fun x c e=>?_,?_,fun x c e=>?_,fun p hp=>?_,hok,I.len⟩
 ·exact keep b o (neL b o e) hb (neC b o e hx) (I.base.keep b o e n hb hx) (I.base.free b o e n hx)
 ·obtain⟨sl,e1⟩:=I.base.slot b o e n hb hx
  obtain⟨sl',e2⟩:=slot b _ (neL b o e) hb (neC b o e hx) e1 (I.base.free b o e n hx)
  exact⟨sl',e2⟩
 ·obtain⟨o',e1⟩:=I.base.there b o e hx
  exact free b o' (neC b o e hx) e1 (I.base.free b o e n hx)
 ·obtain⟨o',e1⟩:=I.base.there b o e hx
  exact there b o' (neC b o e hx) e1
 ·obtain⟨m1,e1⟩:=I.base.tbls b ps e
  obtain⟨m2,e2⟩:=tbls b _ e1
  exact⟨m1++m2,by rw[e2,Array.append_assoc]⟩
 ·obtain⟨m,hn,hl⟩:=I.loc
  refine⟨m,ns m hn,fun i x v e1 e2 e3=>?_⟩
  obtain⟨u,r,l⟩:=hl i x v e1 e2 e3
  refine⟨u,r,?_⟩
  rcases l with l | ⟨k,c,e,z⟩
  ·exact .inl l
  ·exact .inr ⟨k,c,e,cellK x c e _ z⟩
 ·obtain⟨v,z⟩:=I.cell x c e
  exact⟨v,cellK x c e v z⟩
 ·obtain⟨m,⟨o,_,_,ho,_⟩,_⟩:=I.loc
  exact free _ o (fun z=>(hch _ z).2.1 rfl) ho I.free
 ·obtain⟨v,o,ho,hd⟩:=I.cell x c e
  exact free c o (fun z=>(hch c z).2.2.1 x c e rfl) ho (I.freeC x c e)
 ·obtain⟨e,n,ne,nf,d⟩:=I.pin p hp
  have nch:p.1∉ch:=fun z=>(hch p.1 z).2.2.2 p hp rfl
  exact⟨keep p.1 p.2 ne nf nch e n,free p.1 p.2 nch e n,ne,nf,d⟩
theorem Inv.un {t':Nat} (I:Inv X pins σ H s) (u:Un X.fs [] H H' s.heap h') (hok:HOk X.prog X.w H' h'):Inv X pins σ H' {s with heap:=h',toks:=t'}:=by
 obtain⟨m,⟨o,es,ep,ho,r⟩,_⟩:=id I.loc
 obtain⟨sl,hL⟩:=u.any ho I.free (by simp)
 exact I.step (g':=s.gens) (d':=s.drawn) (ch:=[]) (fun _ z=>nomatch z) (fun b o _ hb _ e n=>u.keep b o e n hb (by simp)) (fun b o _ hb _ e n=>u.slot b o e n hb (by simp)) (fun b o _ e n=>u.free b o e n (by simp)) (fun b o _ e=>u.there b o e (by simp)) u.tups u.frzs u.tbls (fun m' hm=>by
  obtain⟨o',es',ep',ho',r'⟩:=hm
  rw[ho] at ho';cases ho'
  exact⟨_,es',ep',hL,r'⟩) hok I.bare
theorem Inv.call {g':Array GenState}{t':Nat}{d':Drawn}{ch:List Addr} (I:Inv X pins σ H s) (u:Un (frs X.stack) ch H H' s.heap h') (hok:HOk X.prog X.w H' h') (hg:AllBare g')
  (hch:∀b∈ch,(b∈X.ex∨X.s_0.heap.objs.size<=b)/\b≠X.env.locals/\(∀x c,X.env.cells.lookup x=some c->c≠b)/\∀p∈X.pn++pins,p.1≠b) :
  Inv X pins σ H' {s with heap:=h',gens:=g',drawn:=d',toks:=t'}:=by
 obtain⟨m,⟨o,es,ep,ho,r⟩,_⟩:=id I.loc
 obtain⟨sl,hL⟩:=u.any ho I.free fun z=>(hch _ z).2.1 rfl
 exact I.step (ch:=ch) hch (fun b o hL hb hc e n=>u.keep b o e n (fun z=>(List.mem_cons.mp (I.stkSub b z)).elim hL hb) hc) (fun b o _ _ hc e n=>u.any e n hc) (fun b o hc e n=>u.free b o e n hc) (fun b o hc e=>u.there b o e hc) u.tups u.frzs u.tbls (fun m' hm=>by
  obtain⟨o',es',ep',ho',r'⟩:=hm
  rw[ho] at ho';cases ho'
  exact⟨_,es',ep',hL,r'⟩) hok hg
theorem Inv.turned {t':Nat}{it:Addr} (I:Inv X pins σ H s) (k:∀b o,b≠it->s.heap.get? b=some o->h'.get? b=some o) (hn:H it=none) (hL:it≠X.env.locals)
  (h1:it∈X.ex∨X.s_0.heap.objs.size<=it) (h2:∀x c,X.env.cells.lookup x=some c->c≠it) (h3:∀p∈X.pn++pins,p.1≠it):Inv X pins σ H {s with heap:=h',toks:=t'}:=by
 have nit:∀b u,H b=some u->b≠it:=fun b u e z=>by rw[z,hn] at e;cases e
 refine I.step (g':=s.gens) (d':=s.drawn) (ch:=[it]) (fun b hb=>?_) (fun b o _ _ hc e _=>k b o (fun z=>hc (by simp[z])) e) (fun b o _ _ hc e _=>⟨o.slots,k b o (fun z=>hc (by simp[z])) e⟩) (fun _ _ _ _ n=>n)
  (fun b o hc e=>⟨o,k b o (fun z=>hc (by simp[z])) e⟩) (fun _ _ e=>e) (fun _ _ _ e=>e) (fun b ps e=>⟨#[],by rw[e];simp⟩) (fun m hm=>?_) (fun b u e=>?_) I.bare
 ·have e:b=it:=by simpa using hb
  subst e
  exact⟨h1,hL,h2,h3⟩
 ·obtain⟨o,es,ep,ho,r⟩:=hm
  exact⟨o,es,ep,k _ o (Ne.symm hL) ho,r⟩
 ·refine (I.hok b u e).stay (fun c v hc q=>k c v ?_ q) (fun _ q=>q) fun _ _ q=>q
  rcases hc with z | z
  ·rw[z];exact nit b u e
  ·exact nit c _ z
theorem Inv.tok (I:Inv X pins σ H s) (t:Nat):Inv X pins σ H {s with toks:=t}:=I.un (h':=s.heap) (t':=t) Un.refl I.hok
theorem Inv.kept {t':Nat} (I:Inv X pins σ H s) (k:∀b u,s.heap.get? b=some u->h'.get? b=some u):Inv X pins σ H {s with heap:=h',toks:=t'}:=I.un (Un.kept k) (I.hok.kept k)
theorem Inv.laid {a:Addr}{o:HO}{t':Nat} (I:Inv X pins σ H s) (k:∀b u,s.heap.get? b=some u->h'.get? b=some u) (hp:s.heap.objs.size<=a) (new:ObjOk X.prog X.w (upd H a o) h' a o) :
  Inv X pins σ (upd H a o) {s with heap:=h',toks:=t'}:=I.un (Un.laid k hp (I.hok.fresh hp)) (I.hok.laid k hp new)
theorem Inv.write {x e:Addr}{o:HO}{t':Nat} (I:Inv X pins σ H s) (mu:Mut (H x)) (he:e=x∨H e=some (.own x)) (k:∀b u,b≠e->s.heap.get? b=some u->h'.get? b=some u) (heo:∃u,h'.get? e=some u)
  (new:ObjOk X.prog X.w (upd H x o) h' x o):Inv X pins σ (upd H x o) {s with heap:=h',toks:=t'}:=I.un (Un.write mu he k heo) (I.hok.write mu he k heo new)
theorem Inv.weak {σ':List (Option V)} (I:Inv X pins σ H s) (hl:σ'.length=σ.length) (w:∀(i:Nat) v,σ'[i]?=some (some v)->σ[i]?=some (some v)):Inv X pins σ' H s :=
 ⟨I.ok,I.os,I.bare,I.base,let ⟨m,hn,hl'⟩:=I.loc;⟨m,hn,fun i x v e1 e2 e3=>hl' i x v e1 (w i v e2) e3⟩,I.cell,I.free,I.freeC,I.pin,I.hok,hl.trans I.len⟩
theorem Inv.pins_of {pins':List (Addr×Obj)} (I:Inv X pins σ H s) (h:∀p∈pins',s.heap.get? p.1=some p.2/\H p.1=none/\p.1≠X.env.locals/\p.1∉X.fs/\∀v,p.2.data≠.cell v):Inv X pins' σ H s :=
 ⟨I.ok,I.os,I.bare,I.base,I.loc,I.cell,I.free,I.freeC,fun p hp=>(List.mem_append.mp hp).elim (fun z=>I.pin p (List.mem_append_left _ z)) (h p),I.hok,I.len⟩
theorem jP {N:List Str} (hN:N.Nodup) {i j:Nat}{x:Str} (a:N[i]?=some x) (b:N[j]?=some x):i=j:=by
 obtain⟨h1,e1⟩:=List.getElem?_eq_some_iff.mp a
 obtain⟨h2,e2⟩:=List.getElem?_eq_some_iff.mp b
 exact (List.getElem_inj hN).mp (e1.trans e2.symm)
theorem lp {M:Model}{A:Around}{E:Value->Shared->Prop}{i:Nat}{x:Str}{v:V}{u:Value}{Q:Unit->Shared->Prop} (I:Inv X pins σ H s) (hN:X.N.Nodup) (hi:X.N[i]?=some x) (hx:Loc X.env.scope x) (r:RelV v u)
  (h:∀s',Inv X pins (σ.set i (some v)) H s'->(∃a,Heap.SameBut a s.heap s'.heap/\(a=X.env.locals∨X.env.cells.lookup x=some a))->Q () s') (hf:X.fn x=true∨X.env.scope.names.lookup x=some .local := by first | exact .inl rfl | exact .inr rfl | assumption):wpAny M A (storeName X.env x u) Q E s:=by
 obtain⟨m,hn,hl⟩:=id I.loc
 have hcls:(X.env.scope.kind==.class || (X.env.scope.kind==.module&&X.env.locals != X.env.globals))=false:=by rw[I.ok.kind];rfl
 have hiσ:i<σ.length:=by rw[I.len];exact (List.getElem?_eq_some_iff.mp hi).1
 have cne:=I.cne
 have tracked:∀{a:Addr}{h':Heap},(∃o,s.heap.get? a=some o/\H a=none)->Heap.SameBut a s.heap h'->HOk X.prog X.w H h':=fun {a h'} ha hs b ob e=>by
  obtain⟨_,_,hfree⟩:=ha
  refine (I.hok b ob e).stay (fun c w' hc q=>(hs.2 c ?_).trans q) (fun _ q=>q) fun _ _ q=>q
  rintro rfl
  rcases hc with rfl | hc
  ·rw[hfree] at e;cases e
  ·rw[hfree] at hc;cases hc
 rcases hx with hk | hk
 ·refine wpAny_storeName_local hk hn (fun h' hn' hs=>?_) hcls
  obtain⟨oL,_,_,hoL,_⟩:=id hn
  refine h _ ⟨I.ok,I.os,I.bare,⟨fun b o e n hb hx=>?_,fun b o e n hb hx=>?_,I.base.free,fun b o e hx=>?_,I.base.tups,I.base.frzs,I.base.tbls⟩,⟨_,hn',fun j y v' e1 e2 e3=>?_⟩,fun y c e=>?_,I.free,I.freeC,fun p hp=>?_,tracked ⟨oL,hoL,I.free⟩ hs,by simpa using I.len⟩ ⟨_,hs,.inl rfl⟩
  ·exact (hs.2 b (Nat.ne_of_lt (Nat.lt_of_lt_of_le (Heap.lt_size e) I.ok.above))).trans (I.base.keep b o e n hb hx)
  ·obtain⟨sl,e1⟩:=I.base.slot b o e n hb hx
   exact⟨sl,(hs.2 b (Nat.ne_of_lt (Nat.lt_of_lt_of_le (Heap.lt_size e) I.ok.above))).trans e1⟩
  ·obtain⟨o',e1⟩:=I.base.there b o e hx
   exact⟨o',(hs.2 b (Nat.ne_of_lt (Nat.lt_of_lt_of_le (Heap.lt_size e) I.ok.above))).trans e1⟩
  ·by_cases hj:j=i
   ·subst hj
    rw[hi] at e1;cases e1
    rw[List.getElem?_set_self hiσ] at e2
    cases e2
    exact⟨u,r,.inl ⟨hk,by simp⟩⟩
   ·rw[List.getElem?_set_ne (Ne.symm hj)] at e2
    obtain⟨u',r',q⟩:=hl j y v' e1 e2 e3
    refine⟨u',r',?_⟩
    rcases q with ⟨k,e⟩ | ⟨k,c,e,z⟩
    ·refine .inl ⟨k,?_⟩
     have:y≠x:=fun e=>hj (jP hN e1 (e ▸ hi))
     simp[this,e]
    ·exact .inr ⟨k,c,e,z.sameBut hs (cne y c e)⟩
  ·obtain⟨w',z⟩:=I.cell y c e
   exact⟨w',z.sameBut hs (cne y c e)⟩
  ·obtain⟨e,n,ne,nf,d⟩:=I.pin p hp
   exact⟨(hs.2 p.1 ne).trans e,n,ne,nf,d⟩
 ·have hfn:X.fn x=true:=by
   rcases hf with z | z
   ·exact z
   ·rw[z] at hk;cases hk
  obtain⟨c,hc⟩:=I.ok.has x (.inl hk)
  obtain⟨w',z⟩:=I.cell x c hc
  refine wpAny_storeName_cell I.ok.kind hk hc z (fun h' hc' hs=>?_)
  obtain⟨oc,hoc,hocd⟩:=id z
  refine h {s with heap:=h'} ⟨I.ok,I.os,I.bare,⟨fun b o e n hb hx=>?_,fun b o e n hb hx=>?_,I.base.free,fun b o e hx=>?_,I.base.tups,I.base.frzs,I.base.tbls⟩,⟨m,hn.sameBut hs (Ne.symm (cne x c hc)),fun j y v' e1 e2 e3=>?_⟩,fun y c' e=>?_,I.free,I.freeC,fun p hp=>?_,tracked ⟨oc,hoc,I.freeC x c hc⟩ hs,by simpa using I.len⟩ ⟨c,hs,.inr hc⟩
  ·exact (hs.2 b (Nat.ne_of_lt (Nat.lt_of_lt_of_le (Heap.lt_size e) (I.ok.cab x c hfn hc)))).trans (I.base.keep b o e n hb hx)
  ·obtain⟨sl,e1⟩:=I.base.slot b o e n hb hx
   exact⟨sl,(hs.2 b (Nat.ne_of_lt (Nat.lt_of_lt_of_le (Heap.lt_size e) (I.ok.cab x c hfn hc)))).trans e1⟩
  ·obtain⟨o',e1⟩:=I.base.there b o e hx
   exact⟨o',(hs.2 b (Nat.ne_of_lt (Nat.lt_of_lt_of_le (Heap.lt_size e) (I.ok.cab x c hfn hc)))).trans e1⟩
  ·by_cases hj:j=i
   ·subst hj
    rw[hi] at e1;cases e1
    rw[List.getElem?_set_self hiσ] at e2
    cases e2
    exact⟨u,r,.inr ⟨.inl hk,c,hc,hc'⟩⟩
   ·rw[List.getElem?_set_ne (Ne.symm hj)] at e2
    obtain⟨u',r',q⟩:=hl j y v' e1 e2 e3
    refine⟨u',r',?_⟩
    rcases q with q | ⟨k,c',e,z'⟩
    ·exact .inl q
    ·refine .inr ⟨k,c',e,z'.sameBut hs ?_⟩
     rintro rfl
     exact hj (jP hN e1 (I.ok.inj _ _ _ e hc ▸ hi))
  ·by_cases hcc:c'=c
   ·subst hcc;exact⟨_,hc'⟩
   ·obtain⟨w2,z2⟩:=I.cell y c' e
    exact⟨w2,z2.sameBut hs hcc⟩
  ·obtain⟨e,n,ne,nf,d⟩:=I.pin p hp
   refine⟨(hs.2 p.1 ?_).trans e,n,ne,nf,d⟩
   intro q
   rw[q,hoc] at e
   have q':oc=p.2:=Option.some.inj e
   exact d w' (by rw[← q'];exact hocd)
theorem gj {M:Model}{A:Around}{E:Value->Shared->Prop}{i:Nat}{x:Str}{v:V}{u:Value}{Q:Unit->Shared->Prop} (I:Inv X pins σ H s) (hN:X.N.Nodup) (hi:X.N[i]?=some x) (hx:Loc X.env.scope x) (r:RelV v u)
  (h:∀s',Inv X pins (σ.set i (some v)) H s'->Q () s') (hf:X.fn x=true∨X.env.scope.names.lookup x=some .local := by first | exact .inl rfl | exact .inr rfl | assumption):wpAny M A (storeName X.env x u) Q E s :=
 lp I hN hi hx r (fun s' I' _=>h s' I') hf
theorem Inv.call' {s':Shared}{ch:List Addr} (I:Inv X pins σ H s) (ho:s'.os=s.os) (u:Un (frs X.stack) ch H H' s.heap s'.heap) (hok:HOk X.prog X.w H' s'.heap) (hg:AllBare s'.gens)
  (hch:∀b∈ch,(b∈X.ex∨X.s_0.heap.objs.size<=b)/\b≠X.env.locals/\(∀x c,X.env.cells.lookup x=some c->c≠b)/\∀p∈X.pn++pins,p.1≠b):Inv X pins σ H' s':=by
 obtain⟨h',g',d',t',o'⟩:=s'
 have e:o'=s.os:=ho
 subst e
 exact I.call (g':=g') (t':=t') (d':=d') u hok hg hch
end
abbrev XK:=Value->Option Addr->Hp->Prop
abbrev St:=List (Option V)
abbrev VK:=V->Hp->Prop
abbrev TE:=St->Hp->VK->Prop
abbrev TT:=St->Hp->(Bool->Hp->Prop)->Prop
abbrev TA:=St->Hp->(List V->Hp->Prop)->Prop
structure Ends where
 nx:St->Hp->Prop
 rt:VK
 bk:St->Hp->Prop:=fun _ _=>False
 ct:St->Hp->Prop:=fun _ _=>False
abbrev TS:=Ends->St->Hp->Prop
def EP (X:Cx) (pins:List (Addr×Obj)) (σ:St) (Q:VK) (u:Value) (s':Shared):Prop:=∃v H',Inv X pins σ H' s'/\RelV v u/\Q v H'
def TP (X:Cx) (pins:List (Addr×Obj)) (σ:St) (Q:Bool->Hp->Prop) (b:Bool) (s':Shared):Prop:=∃H',Inv X pins σ H' s'/\Q b H'
def AP (X:Cx) (pins:List (Addr×Obj)) (σ:St) (Q:List V->Hp->Prop) (us:List Value) (s':Shared):Prop:=∃vs H',Inv X pins σ H' s'/\Vals vs us/\Q vs H'
def SP (X:Cx) (pins:List (Addr×Obj)) (D:Ends) (f:Flow) (s':Shared):Prop :=
 match f with
 | .next=>∃σ' H',Inv X pins σ' H' s'/\D.nx σ' H'
 | .brk=>∃σ' H',Inv X pins σ' H' s'/\D.bk σ' H'
 | .cont=>∃σ' H',Inv X pins σ' H' s'/\D.ct σ' H'
 | .ret u=>∃v σ' H',Inv X pins σ' H' s'/\RelV v u/\D.rt v H'
def PE (X:Cx) (e:Expr) (t:TE):Prop :=
 ∀(pins:List (Addr×Obj)) (s:Shared) (σ:St) (H:Hp) (Q:VK),Inv X pins σ H s->t σ H Q->wpAny (model X.prog X.w) X.A (eval e X.env) (EP X pins σ Q) X.xe s
def PT (X:Cx) (e:Expr) (t:TT):Prop :=
 ∀(pins:List (Addr×Obj)) (s:Shared) (σ:St) (H:Hp) (Q:Bool->Hp->Prop),Inv X pins σ H s->t σ H Q->wpAny (model X.prog X.w) X.A (isTrue e X.env (eval e X.env)) (TP X pins σ Q) X.xe s
def PW (X:Cx) (e:Expr) (t:TT):Prop :=
 ∀(whole:Sem Value) (pins:List (Addr×Obj)) (s:Shared) (σ:St) (H:Hp) (Q:Bool->Hp->Prop),Inv X pins σ H s->t σ H Q->wpAny (model X.prog X.w) X.A (isTrue e X.env whole) (TP X pins σ Q) X.xe s
theorem PW.pt {X:Cx}{e:Expr}{t:TT} (h:PW X e t):PT X e t:=h _
def PA (X:Cx) (es:List Expr) (t:TA):Prop :=
 ∀(pos:Pos) (pins:List (Addr×Obj)) (s:Shared) (σ:St) (H:Hp) (Q:List V->Hp->Prop),Inv X pins σ H s->t σ H Q->wpAny (model X.prog X.w) X.A (spliced (backTo pos (starEach es X.env))) (AP X pins σ Q) X.xe s
def PS (X:Cx) (st:Stmt) (t:TS):Prop :=
 ∀(pins:List (Addr×Obj)) (s:Shared) (σ:St) (H:Hp) (D:Ends),Inv X pins σ H s->t D σ H->wpAny (model X.prog X.w) X.A (exec st X.env) (SP X pins D) X.xe s
def PSs (X:Cx) (st:List Stmt) (t:TS):Prop :=
 ∀(pins:List (Addr×Obj)) (s:Shared) (σ:St) (H:Hp) (D:Ends),Inv X pins σ H s->t D σ H->wpAny (model X.prog X.w) X.A (execs st X.env) (SP X pins D) X.xe s
theorem thn {α:Type}{t:Sem α}{Q Q':α->Shared->Prop}{M:Model}{A:Around}{E:Value->Shared->Prop}{s:Shared} (h:wpAny M A t Q E s) (hQ:∀a s,Q a s->Q' a s):wpAny M A t Q' E s:=wpAny_mono h hQ fun _ _ x=>x
section
variable {X:Cx}
def jb (i:Nat):TE:=fun σ H Q=>∃v,σ[i]?=some (some v)/\Q v H
def tC (v:V):TE:=fun _ H Q=>Q v H
theorem yi {i:Nat}{x:Str}{pos:Pos} (hN:X.N[i]?=some x) (hv:Vis X.env.scope x) (hd:(x==("__debug__":Str))=false:=by decide) (hcd:(x==("__classdict__":Str))=false:=by decide):PE X (.Name x pos) (jb i):=by
 intro pins s σ H Q I h
 obtain⟨v,e,h⟩:=h
 obtain⟨m,hn,hl⟩:=I.loc
 obtain⟨u,r,l⟩:=hl i x v hN e hv
 have fin:EP X pins σ Q u s:=⟨v,H,I,r,h⟩
 rcases l with ⟨hk,hm⟩ | ⟨hk,c,hc,hcell⟩
 ·exact wpAny_Name (wpAny_loadName_local I.ok.kind hk hn hm fin) hd
 ·rcases hk with hk | hk
  ·exact wpAny_Name (wpAny_loadName_cell I.ok.kind hk hc hcell fin) hd
  ·exact wpAny_Name (wpAny_loadName_free I.ok.kind hk hc hcell fin hcd) hd
theorem ao {i j pos}:PE X (.Constant (.int i) j pos) (tC (.int i)):=fun _ _ _ H _ I h=>wpAny_Constant_int ⟨.int i,H,I.tok _,⟨_,rfl⟩,h⟩
theorem xI {b j pos}:PE X (.Constant (.bool b) j pos) (tC (.bl b)):=fun _ _ _ H _ I h=>Constant_bool ⟨.bl b,H,I,rfl,h⟩
theorem cE {j pos}:PE X (.Constant .none j pos) (tC .non):=fun _ _ _ H _ I h=>Constant_none ⟨.non,H,I,rfl,h⟩
theorem aQ {x j pos}:PE X (.Constant (.str x) j pos) (tC (.str x)):=fun _ _ _ H _ I h=>Calls.Constant_str ⟨.str x,H,I.tok _,⟨_,rfl⟩,h⟩
def Gl (X:Cx) (x:Str):Prop:=X.env.kindOf x=some .globalImplicit
theorem cU {E:Value->Shared->Prop}{pins:List (Addr×Obj)}{s:Shared}{σ:St}{H:Hp}{x:Str}{u:Value}{pos:Pos}{Q:Value->Shared->Prop} (I:Inv X pins σ H s) (hg:Gl X x) (hm:X.mg x=some u) (h:Q u s)
  (hd:(x==("__debug__":Str))=false:=by decide):wpAny (model X.prog X.w) X.A (eval (.Name x pos) X.env) Q E s :=
 Calls.Name_function_global I.ok.kind hg (Calls.loadGlobal_global (by rw[I.ok.glob];exact I.mod.glob.keeps I.bk) hm h) hd
theorem d8 {E:Value->Shared->Prop}{pins:List (Addr×Obj)}{s:Shared}{σ:St}{H:Hp}{x:Str}{u:Value}{pos:Pos}{Q:Value->Shared->Prop} (I:Inv X pins σ H s) (hg:Gl X x) (hm:X.mg x=none) (hv:bootBuiltins x=some u) (h:Q u s)
  (hn:x ≠ "__name__":=by decide) (hd:(x==("__debug__":Str))=false:=by decide):wpAny (model X.prog X.w) X.A (eval (.Name x pos) X.env) Q E s:=by
 obtain⟨mb,h1,h2⟩:=I.mod.blt
 exact Calls.Name_function_global I.ok.kind hg (Calls.loadGlobal_builtin (by rw[I.ok.glob];exact I.mod.glob.keeps I.bk) hm (by rw[I.ok.blt];exact h1.keeps I.bk) ((h2 x hn).trans hv) h) hd
theorem gr {x:Str}{v:V}{u:Value}{pos:Pos} (hg:Gl X x) (hm:X.mg x=some u) (r:RelV v u) (hd:(x==("__debug__":Str))=false:=by decide):PE X (.Name x pos) (tC v) :=
 fun _ _ _ H _ I h=>cU I hg hm ⟨v,H,I,r,h⟩ hd
variable {a b:Expr}{ta tb:TE}{pos:Pos}
def tB (t:TE):TT:=fun σ H Q=>t σ H fun x H1=>∃c,x=.bl c/\Q c H1
theorem cY {e:Expr}{t:TE} (h:PE X e t) (he:∀whole,isTrue e X.env whole=(do let v ← whole;standAt e.pos;holding [v] (truthy v)):=by intro _;rfl):PT X e (tB t):=by
 intro pins s σ H Q I hw
 refine isTrue_plain (thn (h pins s σ H _ I hw) fun v s1 ⟨x,H1,I1,r1,q1⟩=>?_) (he _)
 obtain⟨d,rfl,q⟩:=q1
 cases r1
 exact wpAny_truthy_bool ⟨H1,I1,q⟩
variable {tA tB':TT}{rest:List Expr}
def zZ (t u:TT):TT:=fun σ H Q=>t σ H fun c H1=>if c=true then u σ H1 Q else Q false H1
def tOr (t u:TT):TT:=fun σ H Q=>t σ H fun c H1=>if c=true then Q true H1 else u σ H1 Q
def zS (t:TT):TT:=fun σ H Q=>t σ H fun c H1=>Q (!c) H1
theorem qJ (ha:PT X a tA):PW X (.BoolOp .And [a] pos) tA:=by
 intro wh pins s σ H Q I h
 refine isTrue_and (thn (ha pins s σ H Q I h) fun c s1 e=>?_)
 cases c with
 | true=>exact isTrue_and_nil e
 | false=>exact e
theorem jG (ha:PT X a tA):PW X (.BoolOp .Or [a] pos) tA:=by
 intro wh pins s σ H Q I h
 refine isTrue_or (thn (ha pins s σ H Q I h) fun c s1 e=>?_)
 cases c with
 | false=>exact isTrue_or_nil e
 | true=>exact e
theorem uF (ha:PT X a tA) (hb:PW X (.BoolOp .And (b::rest) pos) tB'):PW X (.BoolOp .And (a::b::rest) pos) (zZ tA tB'):=by
 intro wh pins s σ H Q I h
 refine isTrue_and (thn (ha pins s σ H _ I h) fun c s1 ⟨H1,I1,q1⟩=>?_)
 cases c with
 | true=>exact hb wh pins s1 σ H1 Q I1 q1
 | false=>exact⟨H1,I1,q1⟩
theorem lz (ha:PT X a tA) (hb:PW X (.BoolOp .Or (b::rest) pos) tB'):PW X (.BoolOp .Or (a::b::rest) pos) (tOr tA tB'):=by
 intro wh pins s σ H Q I h
 refine isTrue_or (thn (ha pins s σ H _ I h) fun c s1 ⟨H1,I1,q1⟩=>?_)
 cases c with
 | true=>exact⟨H1,I1,q1⟩
 | false=>exact hb wh pins s1 σ H1 Q I1 q1
theorem ie (ha:PT X a tA):PT X (.UnaryOp .Not a pos) (zS tA):=by
 intro pins s σ H Q I h
 exact isTrue_not (ha pins s σ H (fun c H1=>Q (!c) H1) I h)
def zb (ta tb:TE):TE:=fun σ H Q=>ta σ H fun x H1=>∃c,x=.bl c/\if c=true then tb σ H1 Q else Q (.bl false) H1
def zR (ta tb:TE):TE:=fun σ H Q=>ta σ H fun x H1=>∃c,x=.bl c/\if c=true then Q (.bl true) H1 else tb σ H1 Q
def yX (ta:TE):TE:=fun σ H Q=>ta σ H fun x H1=>∃c,x=.bl c/\Q (.bl (!c)) H1
theorem mG {op}{t:TE} (h:PE X a t):PE X (.BoolOp op [a] pos) t:=fun pins s σ H Q I hw=>BoolOp_one (h pins s σ H Q I hw)
theorem pC (ha:PE X a ta) (hb:PE X (.BoolOp .And (b::rest) pos) tb):PE X (.BoolOp .And (a::b::rest) pos) (zb ta tb):=by
 intro pins s σ H Q I h
 refine BoolOp_and (thn (ha pins s σ H _ I h) fun v s1 ⟨x,H1,I1,r1,q1⟩=>?_)
 obtain⟨c,rfl,q1⟩:=q1
 cases r1
 refine wpAny_truthy_bool ?_
 cases c with
 | true=>exact hb pins s1 σ H1 Q I1 q1
 | false=>exact⟨.bl false,H1,I1,rfl,q1⟩
theorem zj (ha:PE X a ta) (hb:PE X (.BoolOp .Or (b::rest) pos) tb):PE X (.BoolOp .Or (a::b::rest) pos) (zR ta tb):=by
 intro pins s σ H Q I h
 refine BoolOp_or (thn (ha pins s σ H _ I h) fun v s1 ⟨x,H1,I1,r1,q1⟩=>?_)
 obtain⟨c,rfl,q1⟩:=q1
 cases r1
 refine wpAny_truthy_bool ?_
 cases c with
 | false=>exact hb pins s1 σ H1 Q I1 q1
 | true=>exact⟨.bl true,H1,I1,rfl,q1⟩
theorem yj (ha:PE X a ta):PE X (.UnaryOp .Not a pos) (yX ta):=by
 intro pins s σ H Q I h
 refine UnaryOp_ (thn (ha pins s σ H _ I h) fun v s1 ⟨x,H1,I1,r1,q1⟩=>?_)
 obtain⟨c,rfl,q1⟩:=q1
 cases r1
 exact not_of (wpAny_truthy_bool ⟨.bl (!c),H1,I1,rfl,q1⟩)
def tIf (t:TT) (ta tb:TE):TE:=fun σ H Q=>t σ H fun c H1=>if c=true then ta σ H1 Q else tb σ H1 Q
theorem uQ {c:Expr} (hc:PT X c tA) (ha:PE X a ta) (hb:PE X b tb):PE X (.IfExp c a b pos) (tIf tA ta tb):=by
 intro pins s σ H Q I h
 refine wpAny_IfExp (thn (hc pins s σ H _ I h) fun d s1 ⟨H1,I1,q1⟩=>?_)
 cases d with
 | true=>exact ha pins s1 σ H1 Q I1 q1
 | false=>exact hb pins s1 σ H1 Q I1 q1
end
def SqL (K:W.Frag) (H:Hp) (a:Addr) (xs:List V):Prop :=
 Rd H a (.lst xs) ∨
  ∃(o:Obj) (its:Array Value) (n:Nat),K.lookup a=some o/\o.cls=.type "list"/\o.dict=none/\o.data=.seq its n/\its.size<=sizeLine/\Vals xs its.toList
def SqT (K:W.Frag) (H:Hp) (a:Addr) (xs:List V):Prop :=
 Rd H a (.tup xs) ∨
  ∃(o:Obj) (its:Array Value) (n:Nat),K.lookup a=some o/\o.cls=.type "tuple"/\o.data=.seq its n/\its.size<=sizeLine/\Vals xs its.toList
def absV:Value->Option V
 | .none=>some .non
 | .bool b=>some (.bl b)
 | .int i _=>some (.int i)
 | .str x _=>some (.str x)
 | .bytes b _=>some (.byt b)
 | .float b _=>some (.flt b)
 | .ref a=>some (.ref a)
 | .type n=>some (.ty n)
 | _=>none
theorem RelV.abs {x:V}{u:Value} (r:RelV x u):absV u=some x:=by
 cases x with
 | non=>cases r;rfl
 | bl _=>cases r;rfl
 | int _=>obtain⟨t,rfl⟩:=r;rfl
 | str _=>obtain⟨t,rfl⟩:=r;rfl
 | byt _=>obtain⟨t,rfl⟩:=r;rfl
 | flt _=>obtain⟨t,rfl⟩:=r;rfl
 | ref _=>cases r;rfl
 | ty _=>cases r;rfl
theorem RelV.inj {x y:V}{u:Value} (r:RelV x u) (q:RelV y u):x=y:=Option.some.inj (r.abs.symm.trans q.abs)
theorem Vals.inj:∀{xs ys:List V}{us:List Value},Vals xs us->Vals ys us->xs=ys
 | _,_,_,.nil,.nil=>rfl
 | _,_,_,.cons r t,.cons r' t'=>by rw[r.inj r',Vals.inj t t']
section
variable {X:Cx}{pins:List (Addr×Obj)}{σ:St}{H:Hp}{s:Shared}{a:Addr}{xs ys:List V}
theorem SqL.of {K:W.Frag} (h:H a=some (.lst xs)):SqL K H a xs:=.inl (.inl h)
theorem SqT.of {K:W.Frag} (h:H a=some (.tup xs)):SqT K H a xs:=.inl (.inl h)
theorem Inv.list (I:Inv X pins σ H s) (h:SqL X.K H a xs):∃its:List Value,Vals xs its/\PlainL s.heap a its.toArray/\xs.length<=sizeLine:=by
 rcases h with h | ⟨o,its,n,hk,hc,hd,hs,hz,r⟩
 ·obtain⟨z,its,n,r,e⟩:=h.ok I.hok
  exact⟨its,r,⟨_,n,e,rfl,rfl,rfl⟩,z⟩
 ·refine⟨its.toList,r,⟨o,n,I.kIn a o hk,hc,hd,by simpa using hs⟩,?_⟩
  have e:=r.length
  simp only[Array.length_toList] at e
  omega
theorem Inv.tuple (I:Inv X pins σ H s) (h:SqT X.K H a xs):∃its:List Value,Vals xs its/\IsTup s.heap a its.toArray/\xs.length<=sizeLine:=by
 rcases h with h | ⟨o,its,n,hk,hc,hs,hz,r⟩
 ·obtain⟨z,its,r,p⟩:=h.ok I.hok
  exact⟨its,r,p.tup,z⟩
 ·refine⟨its.toList,r,⟨o,I.kIn a o hk,hc,n,by simpa using hs⟩,?_⟩
  have e:=r.length
  simp only[Array.length_toList] at e
  omega
theorem Inv.list_inj (I:Inv X pins σ H s) (h:SqL X.K H a xs) (h':SqL X.K H a ys):xs=ys:=by
 obtain⟨its,r,⟨o,n,e,_,_,d⟩,_⟩:=I.list h
 obtain⟨its',r',⟨o',n',e',_,_,d'⟩,_⟩:=I.list h'
 rw[e] at e';cases e'
 rw[d] at d'
 injection d' with d1 _
 have:its=its':=by simpa using congrArg Array.toList d1
 subst this
 exact r.inj r'
theorem Inv.tuple_inj (I:Inv X pins σ H s) (h:SqT X.K H a xs) (h':SqT X.K H a ys):xs=ys:=by
 obtain⟨its,r,⟨o,e,_,n,d⟩,_⟩:=I.tuple h
 obtain⟨its',r',⟨o',e',_,n',d'⟩,_⟩:=I.tuple h'
 rw[e] at e';cases e'
 rw[d] at d'
 injection d' with d1 _
 have:its=its':=by simpa using congrArg Array.toList d1
 subst this
 exact r.inj r'
end
abbrev Cx.wish (X:Cx) (E:Value->Shared->Prop):Cx:={X with xe:=E}
abbrev Cx.nox (X:Cx):Cx:=X.wish fun _ _=>False
theorem Cx.Ok.wish {X:Cx} (ok:X.Ok) (E:Value->Shared->Prop):(X.wish E).Ok :=
 ⟨ok.mod,ok.kind,ok.glob,ok.blt,ok.above,ok.inj,ok.has,ok.cab,ok.hd,ok.frames,ok.stk,ok.exf,ok.bs,ok.bsz,ok.noex,ok.exfs,ok.funs,ok.frf⟩
theorem Cx.Ok.unwish {X:Cx}{E:Value->Shared->Prop} (ok:(X.wish E).Ok):X.Ok :=
 ⟨ok.mod,ok.kind,ok.glob,ok.blt,ok.above,ok.inj,ok.has,ok.cab,ok.hd,ok.frames,ok.stk,ok.exf,ok.bs,ok.bsz,ok.noex,ok.exfs,ok.funs,ok.frf⟩
section
variable {X:Cx}{pins:List (Addr×Obj)}{σ:St}{H:Hp}{s:Shared}{E:Value->Shared->Prop}
theorem Inv.wish (I:Inv X pins σ H s) (E:Value->Shared->Prop):Inv (X.wish E) pins σ H s:=⟨I.ok.wish E,I.os,I.bare,I.base,I.loc,I.cell,I.free,I.freeC,I.pin,I.hok,I.len⟩
theorem Inv.unwish (I:Inv (X.wish E) pins σ H s):Inv X pins σ H s:=⟨I.ok.unwish,I.os,I.bare,I.base,I.loc,I.cell,I.free,I.freeC,I.pin,I.hok,I.len⟩
theorem SP.unwish {D:Ends}{f:Flow}{s':Shared} (h:SP (X.wish E) pins D f s'):SP X pins D f s':=by
 cases f with
 | next=>obtain⟨σ',H',I,q⟩:=h;exact⟨σ',H',I.unwish,q⟩
 | brk=>obtain⟨σ',H',I,q⟩:=h;exact⟨σ',H',I.unwish,q⟩
 | cont=>obtain⟨σ',H',I,q⟩:=h;exact⟨σ',H',I.unwish,q⟩
 | ret u=>obtain⟨v,σ',H',I,r,q⟩:=h;exact⟨v,σ',H',I.unwish,r,q⟩
theorem PSs.nox {st:List Stmt}{t:TS} (h:PSs X.nox st t):PSs X st t:=fun pins s σ H D I hw =>
 wpAny_mono (h pins s σ H D (I.wish _) hw) (fun _ _ q=>q.unwish) fun _ _ z=>False.elim z
end
section
variable {X:Cx}{st:Stmt}{rest:List Stmt}{t u:TS}{e:Expr}{te:TE}{pos:Pos}
def yY:TS:=fun D σ H=>D.nx σ H
def zP (t u:TS):TS:=fun D σ H=>t {D with nx:=u D} σ H
theorem aw:PSs X [] yY:=fun _ _ σ H _ I h=>wpAny_execs_nil ⟨σ,H,I,h⟩
theorem ae (h1:PS X st t) (h2:PSs X rest u):PSs X (st::rest) (zP t u):=by
 intro pins s σ H D I h
 refine wpAny_execs_cons (thn (h1 pins s σ H {D with nx:=u D} I h) fun f s1 q=>?_)
 cases f with
 | next =>
  obtain⟨σ',H',I',q⟩:=q
  exact h2 pins s1 σ' H' D I' q
 | ret v=>exact q
 | brk=>exact q
 | cont=>exact q
theorem ah (h1:PS X st t):PSs X [st] t:=by
 intro pins s σ H D I h
 refine wpAny_execs_cons (thn (h1 pins s σ H D I h) fun f s1 q=>?_)
 cases f with
 | next=>exact wpAny_execs_nil q
 | ret v=>exact q
 | brk=>exact q
 | cont=>exact q
def za:TS:=fun D σ H=>D.ct σ H
theorem iU:PS X (.Continue pos) za:=fun _ _ σ H _ I h=>wpAny_Continue ⟨σ,H,I,h⟩
theorem Inv.quiet {pins:List (Addr×Obj)}{σ:St}{H:Hp}{s:Shared} (I:Inv X pins σ H s):interactive X.env=false:=by simp[interactive,I.ok.kind]
def y8 (te:TE):TS:=fun D σ H=>te σ H fun _ H1=>D.nx σ H1
theorem cu (he:PE X e te) (hs:swapsWith e none pos.line X.env=pure false:=by rfl):PS X (.Expr e pos) (y8 te):=by
 intro pins s σ H D I h
 exact wpAny_Expr_any (thn (he pins s σ H _ I h) fun v s1 ⟨x,H1,I1,r1,q1⟩=>⟨σ,H1,I1,q1⟩) I.quiet hs
def zQ (te:TE):TS:=fun D σ H=>te σ H D.rt
theorem aA (he:PE X e te):PS X (.Return (some e) pos) (zQ te):=by
 intro pins s σ H D I h
 exact wpAny_Return_some (thn (he pins s σ H _ I h) fun v s1 ⟨x,H1,I1,r1,q1⟩=>⟨x,σ,H1,I1,r1,q1⟩)
def zU (c:TT) (t u:TS):TS:=fun D σ H=>c σ H fun b H1=>if b=true then t D σ H1 else u D σ H1
theorem aM {c:Expr}{a b:List Stmt}{tc:TT} (hc:PT X c tc) (ha:PSs X a t) (hb:PSs X b u):PS X (.If c a b pos) (zU tc t u):=by
 intro pins s σ H D I h
 refine wpAny_If (thn (hc pins s σ H _ I h) fun d s1 ⟨H1,I1,q1⟩=>?_)
 cases d with
 | true=>exact ha pins s1 σ H1 D I1 q1
 | false=>exact hb pins s1 σ H1 D I1 q1
def xV:TS:=fun _ _ _=>False
theorem si {sts:List Stmt}:PSs X sts xV:=fun _ _ _ _ _ _ h=>h.elim
end
abbrev TG:=V->St->Hp->(St->Hp->Prop)->Prop
abbrev TGs:=List V->St->Hp->(St->Hp->Prop)->Prop
def PG (X:Cx) (target:Expr) (t:TG):Prop :=
 ∀(pins:List (Addr×Obj)) (s:Shared) (σ:St) (H:Hp) (v:V) (u:Value) (Q:St->Hp->Prop),Inv X pins σ H s->RelV v u->t v σ H Q ->
  wpAny (model X.prog X.w) X.A (assign target X.env u) (fun _ s'=>∃σ' H',Inv X pins σ' H' s'/\Q σ' H') X.xe s
def PGs (X:Cx) (ts:List Expr) (t:TGs):Prop :=
 ∀(pins:List (Addr×Obj)) (s:Shared) (σ:St) (H:Hp) (vs:List V) (us:List Value) (Q:St->Hp->Prop),Inv X pins σ H s->Vals vs us->t vs σ H Q ->
  wpAny (model X.prog X.w) X.A (assignInOrder ((assignEach ts X.env).map (·.2)) us) (fun _ s'=>∃σ' H',Inv X pins σ' H' s'/\Q σ' H') X.xe s
abbrev TIp:=V->V->Hp->VK->Prop
def PIp (X:Cx) (op:Operator) (t:TIp):Prop :=
 ∀(pins:List (Addr×Obj)) (s:Shared) (σ:St) (H:Hp) (x y:V) (v u:Value) (Q:VK),Inv X pins σ H s->RelV x v->RelV y u->t x y H Q ->
  wpAny (model X.prog X.w) X.A (inplaceOp op v u) (EP X pins σ Q) X.xe s
section
variable {X:Cx}{pos:Pos}
def cH (i:Nat):TG:=fun v σ H Q=>Q (σ.set i (some v)) H
theorem aD {i:Nat}{x:Str} (hN:X.N.Nodup) (hi:X.N[i]?=some x) (hx:Loc X.env.scope x) (hf:X.fn x=true∨X.env.scope.names.lookup x=some .local := by first | exact .inl rfl | exact .inr rfl | assumption):PG X (.Name x pos) (cH i):=by
 intro pins s σ H v u Q I r h
 exact wpAny_assign_Name (gj I hN hi hx r (fun s' I'=>⟨_,H,I',h⟩) hf)
def tH:TGs:=fun vs σ H Q=>vs=[]/\Q σ H
def eq (t:TG) (u:TGs):TGs:=fun vs σ H Q=>∃v r,vs=v::r/\t v σ H fun σ' H'=>u r σ' H' Q
theorem bD:PGs X [] tH:=by
 intro pins s σ H vs us Q I r h
 obtain⟨e,h⟩:=h
 subst e
 cases r
 exact assignInOrder_nil ⟨σ,H,I,h⟩
theorem aO {e:Expr}{es:List Expr}{t:TG}{u:TGs} (h1:PG X e t) (h2:PGs X es u)
  (hs:(assignEach (e::es) X.env).map (·.2)=assign e X.env::(assignEach es X.env).map (·.2):=by rfl):PGs X (e::es) (eq t u):=by
 intro pins s σ H vs us Q I r h
 obtain⟨v,vr,e1,h⟩:=h
 subst e1
 cases r with
 | cons r rr =>
  rw[hs]
  refine assignInOrder_cons (thn (h1 pins s σ H _ _ _ I r h) fun _ s1 ⟨σ1,H1,I1,q1⟩=>?_)
  exact h2 pins s1 σ1 H1 _ _ Q I1 rr q1
def tG (K:W.Frag) (n:Nat) (t:TGs):TG:=fun v σ H Q=>∃a xs,v=.ref a/\SqT K H a xs/\xs.length=n/\t xs σ H Q
theorem bV {es:List Expr}{k:Nat}{t:TGs}{n:Nat} (hc:X.calm=true) (h:PGs X es t)
  (hn:(assignEach es X.env).length=n:=by rfl) (hst:(assignEach es X.env).findIdx? (·.1)=none:=by rfl):PG X (.Tuple es k pos) (tG X.K n t):=by
 intro pins s σ H v u Q I r hw
 obtain⟨a,xs,e1,hq,hl,hw⟩:=hw
 subst e1
 cases r
 obtain⟨its,rv,ht,hz⟩:=I.tuple hq
 refine assign_Tuple_tuple (I.ok.hd hc) ht (by simp[hn,← hl,rv.length]) hst fun h' hx=>?_
 have I1:Inv X pins σ H {s with heap:=h'}:=I.kept (t':=s.toks) fun b o e=>hx b o (Nat.ne_of_lt (Heap.lt_size e)) e
 exact h pins _ σ H xs _ Q I1 (by simpa using rv) hw
def xZ (te:TE) (g:TG):TS:=fun D σ H=>te σ H fun x H1=>g x σ H1 D.nx
theorem aG {i:Nat}{x:Str}{e:Expr}{te:TE}{pos':Pos} (hN:X.N.Nodup) (hi:X.N[i]?=some x) (hx:Loc X.env.scope x) (he:PE X e te) (hs:swapsWith e (some (.Name x pos')) pos.line X.env=pure false:=by rfl) (hf:X.fn x=true∨X.env.scope.names.lookup x=some .local := by first | exact .inl rfl | exact .inr rfl | assumption) :
  PS X (.Assign [.Name x pos'] e pos) (xZ te (cH i)):=by
 intro pins s σ H D I h
 refine wpAny_Assign_Name (thn (he pins s σ H _ I h) fun v s1 ⟨y,H1,I1,r1,q1⟩=>?_) hs
 exact gj I1 hN hi hx r1 (fun s2 I2=>⟨_,H1,I2,q1⟩) hf
def zY (i:Nat) (te:TE) (ti:TIp):TS:=fun D σ H=>∃x,σ[i]?=some (some x)/\te σ H fun y H1=>ti x y H1 fun z H2=>D.nx (σ.set i (some z)) H2
theorem jH {i:Nat}{x:Str}{e:Expr}{te:TE}{op:Operator}{ti:TIp}{pos':Pos} (hN:X.N.Nodup) (hi:X.N[i]?=some x) (hx:Loc X.env.scope x) (he:PE X e te) (ho:PIp X op ti) (hf:X.fn x=true∨X.env.scope.names.lookup x=some .local := by first | exact .inl rfl | exact .inr rfl | assumption) :
  PS X (.AugAssign (.Name x pos') op e pos) (zY i te ti):=by
 intro pins s σ H D I h
 obtain⟨v,e1,h⟩:=h
 obtain⟨m,hn,hl⟩:=I.loc
 have vis:Vis X.env.scope x:=by rcases hx with k | k;exact .inl k;exact .inr (.inl k)
 obtain⟨u,r,l⟩:=hl i x v hi e1 vis
 refine wpAny_AugAssign_Name ?_
 have go:wpAny (model X.prog X.w) X.A (eval e X.env) (fun w s₂=>wpAny (model X.prog X.w) X.A (inplaceOp op u w) (fun r s₃=>wpAny (model X.prog X.w) X.A (storeName X.env x r) (fun _=>SP X pins D .next) X.xe s₃) X.xe s₂) X.xe s:=by
  refine thn (he pins s σ H _ I h) fun w s1 ⟨y,H1,I1,r1,q1⟩=>?_
  refine thn (ho pins s1 σ H1 v y u w _ I1 r r1 q1) fun z s2 ⟨zv,H2,I2,r2,q2⟩=>?_
  exact gj I2 hN hi hx r2 (fun s3 I3=>⟨_,H2,I3,q2⟩) hf
 rcases l with ⟨hk,hm⟩ | ⟨hk,c,hc,hcell⟩
 ·exact wpAny_loadName_local I.ok.kind hk hn hm go
 ·rcases hk with hk | hk
  ·exact wpAny_loadName_cell I.ok.kind hk hc hcell go
  ·rcases hx with k | k
   ·have:X.env.scope.names.lookup x=some .free:=hk
    rw[k] at this;cases this
   ·have:X.env.scope.names.lookup x=some .free:=hk
    rw[k] at this;cases this
def ipI (f:Int->Int->Int):TIp:=fun x y H Q=>∃i j,x=.int i/\y=.int j/\Q (.int (f i j)) H
theorem ke:PIp X .Add (ipI fun i j=>i+j):=by
 intro pins s σ H x y v u Q I r1 r2 h
 obtain⟨i,j,e1,e2,q⟩:=h
 subst e1;subst e2
 obtain⟨t,rfl⟩:=r1
 obtain⟨t',rfl⟩:=r2
 exact iadd_int ⟨.int _,H,I.tok _,⟨_,rfl⟩,q⟩
end
section
variable {X:Cx}{pos:Pos}
end
structure It where
 go:Nat->Hp->Prop
 yld:Nat->Hp->V->Hp->Prop
 stop:Nat->Hp->Prop
def FpOk (X:Cx) (pins:List (Addr×Obj)) (H:Hp) (b:Addr):Prop :=
 H b=none/\b≠X.env.locals/\b∉X.fs/\(b∈X.ex∨X.s_0.heap.objs.size<=b)/\(∀x c,X.env.cells.lookup x=some c->c≠b)/\∀p∈X.pn++pins,p.1≠b
theorem Inv.fpOk {X:Cx}{pins:List (Addr×Obj)}{σ:St}{H H':Hp}{s:Shared}{b:Addr} (I:Inv X pins σ H s) (hb:s.heap.objs.size<=b) (hn:H' b=none):FpOk X pins H' b:=by
 refine⟨hn,Nat.ne_of_gt (Nat.lt_of_lt_of_le I.lt hb),I.nofs hb,.inr (Nat.le_trans I.sz hb),fun x c e z=>?_,fun p hp z=>?_⟩
 ·obtain⟨v,q⟩:=I.cell x c e
  exact absurd (Nat.lt_of_lt_of_le q.lt (by rw[z];exact hb)) (Nat.lt_irrefl _)
 ·exact absurd (Nat.lt_of_lt_of_le (Heap.lt_size (I.pin p hp).1) (by rw[z];exact hb)) (Nat.lt_irrefl _)
structure Turn (P:Program) (w:World) (K:W.Frag) (tg:Expr) (J:It) (fp:List Addr) (it:Addr) (tn:Nat->Heap->Prop):Prop where
 mem:it∈fp
 obj:∀i h,tn i h->∀b∈fp,∃o,h.get? b=some o/\∀v,o.data≠.cell v
 keep:∀i h h',tn i h->(∀b∈fp,∀o,h.get? b=some o->h'.get? b=some o)->tn i h'
 item:∀(X:Cx),X.prog=P->X.w=w->X.K=K->X.calm=true->∀(i:Nat) (pins:List (Addr×Obj)) (s:Shared) (σ:St) (H:Hp) (E:Value->Shared->Prop),Inv X pins σ H s->(∀b∈fp,FpOk X pins H b)->tn i s.heap->J.go i H ->
  wpAny (model P w) X.A (pyNext (.ref it)) (fun r s1=>∃u,r=some u /\
   wpAny (model P w) X.A (letOwnedTupleGo tg (.ref it) u) (fun _ s2=>∃x H',Inv X pins σ H' s2/\RelV x u/\J.yld i H x H'/\tn (i+1) s2.heap/\∀b∈fp,H' b=none) E s1) E s
 done:∀(X:Cx),X.prog=P->X.w=w->X.K=K->X.calm=true->∀(i:Nat) (pins:List (Addr×Obj)) (s:Shared) (σ:St) (H:Hp) (E:Value->Shared->Prop),Inv X pins σ H s->(∀b∈fp,FpOk X pins H b)->tn i s.heap->J.stop i H ->
  wpAny (model P w) X.A (pyNext (.ref it)) (fun r s1=>r=none/\Inv X pins σ H s1) E s
 self:∀(A:Around) (i:Nat) (s:Shared) (Q:Value->Shared->Prop) (E:Value->Shared->Prop),tn i s.heap->Q (.ref it) s->wpAny (model P w) A (pyIter (.ref it)) Q E s
abbrev TI:=St->Hp->(It->Hp->Prop)->Prop
def PIE (X:Cx) (pins:List (Addr×Obj)) (σ:St) (tg:Expr) (R:It->Hp->Prop) (itv:Value) (s2:Shared):Prop :=
 ∃(it:Addr) (fp:List Addr) (tn:Nat->Heap->Prop) (J:It) (H':Hp),itv=.ref it/\Inv X pins σ H' s2/\Turn X.prog X.w X.K tg J fp it tn/\tn 0 s2.heap/\(∀b∈fp,FpOk X pins H' b)/\R J H'
def PI (X:Cx) (tg iter:Expr) (wi:TI):Prop :=
 ∀(pins:List (Addr×Obj)) (s:Shared) (σ:St) (H:Hp) (R:It->Hp->Prop),Inv X pins σ H s->wi σ H R ->
  wpAny (model X.prog X.w) X.A (eval iter X.env) (fun v s1=>wpAny (model X.prog X.w) X.A (pyIter v) (PIE X pins σ tg R) X.xe s1) X.xe s
theorem oz {M:Model}{A:Around}{E:Value->Shared->Prop}{s:Shared}{tg:Expr}{it:Addr}{u:Value}{o:Obj}{n:String}{vs:Array Value}{Q:Unit->Shared->Prop} (ho:s.heap.get? it=some o) (hc:o.cls=.type n) (hd:o.data=.fields vs)
    (hn:["enumerate","zip","dict_itemiterator","dict_reverseitemiterator","odict_iterator","itertools.zip_longest","itertools.pairwise"].contains n=false) (hQ:Q () s):wpAny M A (letOwnedTupleGo tg (.ref it) u) Q E s:=by
  unfold letOwnedTupleGo
  cases tg <;> first
    | exact wpAny_pure hQ
    | (cases u <;> first
        | exact wpAny_pure hQ
        | (refine wpAny_bind (wpAny_load ho ?_)
           rw[hc,hd]
           show wpAny M A (if (["enumerate","zip","dict_itemiterator","dict_reverseitemiterator","odict_iterator","itertools.zip_longest","itertools.pairwise"].contains n&&vs[0]?==some (rawInt _))=true then _ else _) Q E s
           rw[if_neg (by intro h;rw[hn,Bool.false_and] at h;cases h)]
           exact wpAny_pure hQ))
def Itl (K:W.Frag) (a:Addr):It :=
 ⟨fun i H=>∃xs x,SqL K H a xs/\xs[i]?=some x,fun i H x H'=>H'=H/\∀xs,SqL K H a xs->xs[i]?=some x,fun i H=>∃xs,SqL K H a xs/\xs.length<=i⟩
def Itt (K:W.Frag) (a:Addr):It :=
 ⟨fun i H=>∃xs x,SqT K H a xs/\xs[i]?=some x,fun i H x H'=>H'=H/\∀xs,SqT K H a xs->xs[i]?=some x,fun i H=>∃xs,SqT K H a xs/\xs.length<=i⟩
def Itr (lo:Int) (n:Nat):It:=⟨fun i _=>i<n,fun i H x H'=>H'=H/\x=.int (lo+i),fun i _=>n<=i⟩
theorem rN {P:Program}{w:World}{K:W.Frag}{tg:Expr} (a it:Addr):Turn P w K tg (Itl K a) [it] it (fun i h=>h.IsListIter it a i) where
 mem:=by simp
 obj:=fun i h st b hb=>by
  have e:b=it:=by simpa using hb
  subst e
  obtain⟨o,e,c,d⟩:=st
  exact⟨o,e,fun v z=>by rw[d] at z;cases z⟩
 keep:=fun i h h' st k=>st.at fun o e=>k it (by simp) o e
 item:=by
  intro X hP hw hK hc i pins s σ H E I hf st hg
  subst hP hw hK
  obtain⟨xs,x,hq,hx⟩:=hg
  obtain⟨its,rv,p,hz⟩:=I.list hq
  obtain⟨u,hu,ru⟩:=rv.get hx
  obtain⟨f0,f1,f2,f3,f4,f5⟩:=hf it (by simp)
  refine wpAny_pyNext_list_item st p.isList (x:=u) (by simpa using hu) fun h' st' sb=>?_
  have I1:Inv X pins σ H {s with heap:=h'}:=I.turned (t':=s.toks) (fun b o hb e=>(sb.2 b hb).trans e) f0 f1 f3 f4 f5
  obtain⟨o,e,c,d⟩:=id st'
  exact⟨u,rfl,oz (s:={s with heap:=h'}) e c d (by decide) ⟨x,H,I1,ru,⟨rfl,fun ys hy=>by rw[I.list_inj hy hq];exact hx⟩,st',fun b hb=>(hf b hb).1⟩⟩
 done:=by
  intro X hP hw hK hc i pins s σ H E I hf st hg
  subst hP hw hK
  obtain⟨xs,hq,hx⟩:=hg
  obtain⟨its,rv,p,hz⟩:=I.list hq
  obtain⟨f0,f1,f2,f3,f4,f5⟩:=hf it (by simp)
  have hl:=rv.length
  exact wpAny_pyNext_list_end (I.ok.hd hc) st p.isList (by simp;omega) fun h' eb=>⟨rfl,I.turned (t':=s.toks) (fun b o hb e=>eb b o hb e) f0 f1 f3 f4 f5⟩
 self:=fun _ _ _ _ _ st h=>wpAny_pyIter_listiter st h
theorem pd {P:Program}{w:World}{K:W.Frag}{tg:Expr} (a it:Addr):Turn P w K tg (Itt K a) [it] it (fun i h=>h.IsTupleIter it a i) where
 mem:=by simp
 obj:=fun i h st b hb=>by
  have e:b=it:=by simpa using hb
  subst e
  obtain⟨o,e,c,d⟩:=st
  exact⟨o,e,fun v z=>by rw[d] at z;cases z⟩
 keep:=fun i h h' st k=>st.at fun o e=>k it (by simp) o e
 item:=by
  intro X hP hw hK hc i pins s σ H E I hf st hg
  subst hP hw hK
  obtain⟨xs,x,hq,hx⟩:=hg
  obtain⟨its,rv,p,hz⟩:=I.tuple hq
  obtain⟨u,hu,ru⟩:=rv.get hx
  obtain⟨f0,f1,f2,f3,f4,f5⟩:=hf it (by simp)
  refine wpAny_pyNext_tuple_item st (show s.heap.IsTuple a its.toArray from p) (x:=u) (by simpa using hu) fun h' st' sb=>?_
  have I1:Inv X pins σ H {s with heap:=h'}:=I.turned (t':=s.toks) (fun b o hb e=>(sb.2 b hb).trans e) f0 f1 f3 f4 f5
  obtain⟨o,e,c,d⟩:=id st'
  exact⟨u,rfl,oz (s:={s with heap:=h'}) e c d (by decide) ⟨x,H,I1,ru,⟨rfl,fun ys hy=>by rw[I.tuple_inj hy hq];exact hx⟩,st',fun b hb=>(hf b hb).1⟩⟩
 done:=by
  intro X hP hw hK hc i pins s σ H E I hf st hg
  subst hP hw hK
  obtain⟨xs,hq,hx⟩:=hg
  obtain⟨its,rv,p,hz⟩:=I.tuple hq
  obtain⟨f0,f1,f2,f3,f4,f5⟩:=hf it (by simp)
  have hl:=rv.length
  exact wpAny_pyNext_tuple_end (I.ok.hd hc) st (show s.heap.IsTuple a its.toArray from p) (by simp;omega) fun h' eb=>⟨rfl,I.turned (t':=s.toks) (fun b o hb e=>eb b o hb e) f0 f1 f3 f4 f5⟩
 self:=fun _ _ _ _ _ st h=>wpAny_pyIter_tupleiter st h
theorem pf {P:Program}{w:World}{K:PySem.W.Frag}{tg:Expr} (it:Addr) (lo:Int) (n:Nat):Turn P w K tg (Itr lo n) [it] it (fun i h=>IsRangeIter h it (lo+(i:Nat) * 1) ((n:Int)-(i:Nat)) 1) where
 mem:=by simp
 obj:=fun i h st b hb=>by
  have e:b=it:=by simpa using hb
  subst e
  exact⟨_,st,fun v z=>by
   have z':Data.fields _=Data.cell v:=z
   cases z'⟩
 keep:=fun i h h' st k=>k it (by simp) _ st
 item:=by
  intro X hP hw hK hc i pins s σ H E I hf st hg
  subst hP hw hK
  obtain⟨f0,f1,f2,f3,f4,f5⟩:=hf it (by simp)
  have W:=Walks.range (prog:=X.prog) (w:=X.w) (I.ok.hd hc) it lo 1 n
  refine W.item i s _ _ hg st fun v h' tk hv st' kk=>?_
  obtain⟨t,rfl⟩:=hv
  have I1:Inv X pins σ H {s with heap:=h',toks:=tk}:=I.turned (fun b o hb e=>kk b o (by simpa using hb) e) f0 f1 f3 f4 f5
  refine⟨_,rfl,oz (s:={s with heap:=h',toks:=tk}) (n:="range_iterator") st' rfl rfl (by decide) ⟨.int (lo+i),H,I1,⟨t,?_⟩,⟨rfl,rfl⟩,st',fun b hb=>(hf b hb).1⟩⟩
  rw[Int.mul_one]
 done:=by
  intro X hP hw hK hc i pins s σ H E I hf st hg
  subst hP hw hK
  obtain⟨f0,f1,f2,f3,f4,f5⟩:=hf it (by simp)
  exact wpAny_pyNext_range_end (I.ok.hd hc) st (by have:n<=i:=hg;omega) fun h' eb=>⟨rfl,I.turned (t':=s.toks) (fun b o hb e=>eb b o hb e) f0 f1 f3 f4 f5⟩
 self:=fun _ _ _ _ _ st h=>wpAny_pyIter_rangeiter st h
section
variable {X:Cx}{tg:Expr}
def zy (K:W.Frag) (tl:TE):TI:=fun σ H R=>tl σ H fun x H1=>∃a,x=.ref a/\(∃xs,SqL K H1 a xs)/\R (Itl K a) H1
def Ae (K:W.Frag) (tl:TE):TI:=fun σ H R=>tl σ H fun x H1=>∃a,x=.ref a/\(∃xs,SqT K H1 a xs)/\R (Itt K a) H1
theorem bo {l:Expr}{tl:TE} (hl:PE X l tl):PI X tg l (zy X.K tl):=by
 intro pins s σ H R I h
 refine thn (hl pins s σ H _ I h) fun v s1 ⟨x,H1,I1,r1,q1⟩=>?_
 obtain⟨a,e,⟨xs,hq⟩,q⟩:=q1
 subst e
 cases r1
 obtain⟨its,rv,p,hz⟩:=I1.list hq
 refine wpAny_pyIter_list p.isList ?_
 refine⟨s1.heap.objs.size,[s1.heap.objs.size],_,_,H1,rfl,I1.kept (t':=s1.toks) fun b o e=>Heap.get?_push_of_some _ e,rN a _,⟨_,Heap.get?_push_size _ rfl,rfl,rfl⟩,fun b hb=>?_,q⟩
 have e:b=s1.heap.objs.size:=by simpa using hb
 subst e
 exact I1.fpOk (Nat.le_refl _) (I1.hok.fresh (Nat.le_refl _))
theorem pA {l:Expr}{tl:TE} (hl:PE X l tl):PI X tg l (Ae X.K tl):=by
 intro pins s σ H R I h
 refine thn (hl pins s σ H _ I h) fun v s1 ⟨x,H1,I1,r1,q1⟩=>?_
 obtain⟨a,e,⟨xs,hq⟩,q⟩:=q1
 subst e
 cases r1
 obtain⟨its,rv,p,hz⟩:=I1.tuple hq
 refine wpAny_pyIter_tuple (show s1.heap.IsTuple a its.toArray from p) ?_
 refine⟨s1.heap.objs.size,[s1.heap.objs.size],_,_,H1,rfl,I1.kept (t':=s1.toks) fun b o e=>Heap.get?_push_of_some _ e,pd a _,⟨_,Heap.get?_push_size _ rfl,rfl,rfl⟩,fun b hb=>?_,q⟩
 have e:b=s1.heap.objs.size:=by simpa using hb
 subst e
 exact I1.fpOk (Nat.le_refl _) (I1.hok.fresh (Nat.le_refl _))
theorem uE {pins:List (Addr×Obj)}{σ:St}{H:Hp}{s:Shared}{R:It->Hp->Prop}{E:Value->Shared->Prop}{lo hi:Int}{t u v:Tok}{tk:Nat} (I:Inv X pins σ H s) (h1:-(2 ^ 62)<=lo) (h2:lo<2 ^ 62) (h3:-(2 ^ 62)<=hi) (h4:hi<2 ^ 62)
  (q:R (Itr lo (hi-lo).toNat) H):wpAny (model X.prog X.w) X.A (pyIter (.ref s.heap.objs.size)) (PIE X pins σ tg R) E {s with heap:=s.heap.push {cls:=.type "range",data:=.fields #[.int lo t,.int hi u,.int 1 v]},toks:=tk}:=by
 refine wpAny_pyIter_range (IsRange.new ..) (small_one h1 h2 h3 h4) ?_
 have I1:Inv X pins σ H {s with heap:=s.heap.push {cls:=.type "range",data:=.fields #[.int lo t,.int hi u,.int 1 v]},toks:=tk}:=I.kept fun b o e=>Heap.get?_push_of_some _ e
 refine⟨(s.heap.push {cls:=.type "range",data:=.fields #[.int lo t,.int hi u,.int 1 v]}).objs.size,[(s.heap.push {cls:=.type "range",data:=.fields #[.int lo t,.int hi u,.int 1 v]}).objs.size],_,_,H,rfl,
  I1.kept (t':=tk) fun b o e=>Heap.get?_push_of_some _ e,pf _ lo (hi-lo).toNat,?_,fun b hb=>?_,q⟩
 ·have e1:lo+((0:Nat):Int) * 1=lo:=by simp
  have e2:(((hi-lo).toNat:Nat):Int)-((0:Nat):Int)=Builtin.Range.rangeSize lo hi 1:=by rw[rangeSize_one];split <;> omega
  show IsRangeIter _ _ (lo+((0:Nat):Int) * 1) ((((hi-lo).toNat:Nat):Int)-((0:Nat):Int)) 1
  rw[e1,e2]
  exact Heap.get?_push_size _ rfl
 ·have e:b=(s.heap.push {cls:=.type "range",data:=.fields #[.int lo t,.int hi u,.int 1 v]}).objs.size:=by simpa using hb
  subst e
  exact I1.fpOk (Nat.le_refl _) (I1.hok.fresh (Nat.le_refl _))
def zw (ta:TA):TI:=fun σ H R=>ta σ H fun vs H1=>∃i j:Int,vs=[.int i,.int j]/\(-(2 ^ 62)<=i/\i<2 ^ 62/\-(2 ^ 62)<=j/\j<2 ^ 62)/\R (Itr i (j-i).toNat) H1
theorem sk {a b:Expr}{ta:TA}{p pos:Pos} (hg:Gl X "range") (hm:X.mg "range" = none) (ha:PA X [a,b] ta) (hs:starEach [a,b] X.env=[(false,eval a X.env),(false,eval b X.env)]:=by rfl) (hs2:starEach [b] X.env=[(false,eval b X.env)]:=by rfl) :
  PI X tg (.Call (.Name "range" p) [a,b] [] pos) (zw ta):=by
 intro pins s σ H R I h
 refine Call_ (d8 I hg hm boot_range (PyProof.Rows.callWith_type1 (thn (ha pos pins s σ H _ I h) fun us s1 ⟨vs,H1,I1,r1,q1⟩=>?_) (by rw[hs,hs2]) (by rw[hs2];rfl)))
 obtain⟨i,j,e,⟨q1,q2,q3,q4⟩,q⟩:=q1
 subst e
 cases r1 with
 | cons r rr =>
  cases rr with
  | cons r' rr =>
   cases rr
   obtain⟨t,rfl⟩:=r
   obtain⟨t',rfl⟩:=r'
   exact call_range_2 (uE I1 q1 q2 q3 q4 q)
def zV (wi:TI) (g:TG) (tb:TS):TS:=fun D σ H=>wi σ H fun J H1=>∃W:Nat->Nat->St->Hp->Prop,(∃m,W 0 m σ H1)/\∀i m σ H,W i m σ H ->
 (J.stop i H/\D.nx σ H)∨(J.go i H/\∃N:St->Hp->Prop,(∀σ' H',N σ' H'->∃m',m'<m/\W (i+1) m' σ' H')/\∀x H',J.yld i H x H'->g x σ H' fun σ2 H2=>tb {D with nx:=N,ct:=N,bk:=D.nx} σ2 H2)
def ii (fp:List Addr) (h:Heap):List (Addr×Obj):=fp.filterMap fun b=>(h.get? b).map fun o=>(b,o)
theorem dC {fp:List Addr}{h:Heap}{b:Addr}{o:Obj} (hb:b∈fp) (e:h.get? b=some o):(b,o)∈ii fp h:=List.mem_filterMap.mpr ⟨b,hb,by rw[e];rfl⟩
theorem sN {fp:List Addr}{h:Heap}{p:Addr×Obj} (hp:p∈ii fp h):p.1∈fp/\h.get? p.1=some p.2:=by
 obtain⟨b,hb,e⟩:=List.mem_filterMap.mp hp
 cases q:h.get? b with
 | none=>rw[q] at e;cases e
 | some o =>
  rw[q] at e
  have e':(b,o)=p:=Option.some.inj e
  subst e'
  exact⟨hb,q⟩
theorem Inv.pinned {pins:List (Addr×Obj)}{σ:St}{H:Hp}{s:Shared}{fp:List Addr} (I:Inv X pins σ H s) (hf:∀b∈fp,FpOk X pins H b) (ho:∀b∈fp,∃o,s.heap.get? b=some o/\∀v,o.data≠.cell v):Inv X (pins++ii fp s.heap) σ H s :=
 I.pins_of fun p hp=>(List.mem_append.mp hp).elim (fun z=>I.pin p (List.mem_append_right _ z)) fun z=>by
  obtain⟨hb,e⟩:=sN z
  obtain⟨f0,f1,f2,_⟩:=hf p.1 hb
  obtain⟨o,e',d⟩:=ho p.1 hb
  rw[e] at e';cases e'
  exact⟨e,f0,f1,f2,d⟩
theorem Inv.unpinned {pins pl:List (Addr×Obj)}{σ:St}{H:Hp}{s:Shared} (I:Inv X (pins++pl) σ H s):Inv X pins σ H s:=I.pins_of fun p hp=>I.pin p (List.mem_append_right _ (List.mem_append_left _ hp))
theorem br {iter:Expr}{body:List Stmt}{wi:TI}{g:TG}{tb:TS}{pos:Pos} (hp:PassesOwn (model X.prog X.w) X.A X.env X.xe) (hc:X.calm=true) (hi:PI X tg iter wi) (hg:PG X tg g) (hb:PSs X body tb)
  (hs:∀x,foldedSetIterable iter X.env x=pure x:=by intro _;rfl):PS X (.For tg iter body [] pos) (zV wi g tb):=by
 intro pins s σ H D I h
 refine wpAny_For (thn (hi pins s σ H _ I h) fun v s1 h1=>thn h1 fun itv s2 h2=>?_) hs
 obtain⟨it,fp,tn,J,H2,e,I2,T,st2,f2,W,⟨m0,w0⟩,turn⟩:=h2
 subst e
 have stat:∀{H':Hp},(∀b∈fp,H' b=none)->∀b∈fp,FpOk X pins H' b:=fun hn b hb=>⟨hn b hb,(f2 b hb).2⟩
 refine codeAny_forLoop_any (fun n s'=>∃i σ' H',Inv X pins σ' H' s'/\tn i s'.heap/\(∀b∈fp,H' b=none)/\W i n σ' H') ?_ m0 ⟨0,σ,H2,I2,st2,fun b hb=>(f2 b hb).1,w0⟩
 rintro n s3 ⟨i,σ3,H3,I3,st3,fr3,w3⟩
 rcases turn i n σ3 H3 w3 with ⟨stop,qn⟩ | ⟨go,N,hN,step⟩
 ·refine wpAny_passesOwn hp (thn (T.done X rfl rfl rfl hc i pins s3 σ3 H3 X.xe I3 (stat fr3) st3 stop) fun r s4 ⟨hr,I4⟩=>?_)
  subst hr
  exact wpAny_execs_nil ⟨σ3,H3,I4,qn⟩
 ·refine wpAny_passesOwn hp (thn (T.item X rfl rfl rfl hc i pins s3 σ3 H3 X.xe I3 (stat fr3) st3 go) fun r s4 ⟨u,hr,h4⟩=>?_)
  subst hr
  refine wpAny_passesOwn hp (thn h4 fun _ s5 ⟨x,H5,I5,r5,y5,st5,fr5⟩=>?_)
  have I5':=I5.pinned (stat fr5) (T.obj _ _ st5)
  refine wpAny_passesOwn hp (thn (hg _ s5 σ3 H5 x u _ I5' r5 (step x H5 y5)) fun _ s6 ⟨σ6,H6,I6,q6⟩=>?_)
  refine wpAny_passesOwn hp (thn (hb _ s6 σ6 H6 _ I6 q6) fun f s7 q7=>?_)
  have again:∀{σ7:St}{H7:Hp},Inv X (pins++ii fp s5.heap) σ7 H7 s7->N σ7 H7->∃m,m<n/\∃i σ' H',Inv X pins σ' H' s7/\tn i s7.heap/\(∀b∈fp,H' b=none)/\W i m σ' H':=fun {σ7 H7} I7 n7=>by
   obtain⟨m',hm,w7⟩:=hN σ7 H7 n7
   refine⟨m',hm,i+1,σ7,H7,I7.unpinned,T.keep _ _ _ st5 fun b hb o e=>(I7.pin (b,o) (List.mem_append_right _ (List.mem_append_right _ (dC hb e)))).1,fun b hb=>?_,w7⟩
   obtain⟨o,e,d⟩:=T.obj _ _ st5 b hb
   exact (I7.pin (b,o) (List.mem_append_right _ (List.mem_append_right _ (dC hb e)))).2.1
  cases f with
  | next=>obtain⟨σ7,H7,I7,n7⟩:=q7;exact again I7 n7
  | cont=>obtain⟨σ7,H7,I7,n7⟩:=q7;exact again I7 n7
  | brk=>obtain⟨σ7,H7,I7,q7⟩:=q7;exact⟨σ7,H7,I7.unpinned,q7⟩
  | ret v=>obtain⟨x7,σ7,H7,I7,r7,q7⟩:=q7;exact⟨x7,σ7,H7,I7.unpinned,r7,q7⟩
end
theorem cg {K:PySem.W.Frag}{a:Addr}{xs:List V}{g:TG}{tb:TS}{D:Ends}{σ:St}{H:Hp} (Pv:Nat->St->Hp->Prop) (h0:Pv 0 σ H) (hl:∀i σ H,i<=xs.length->Pv i σ H->SqL K H a xs)
  (hs:∀i x σ H,xs[i]?=some x->Pv i σ H->g x σ H fun σ2 H2=>tb {D with nx:=Pv (i+1),ct:=Pv (i+1),bk:=D.nx} σ2 H2) (hd:∀σ H,Pv xs.length σ H->D.nx σ H) :
  ∃W:Nat->Nat->St->Hp->Prop,(∃m,W 0 m σ H)/\∀i m σ H,W i m σ H ->
   ((Itl K a).stop i H/\D.nx σ H)∨((Itl K a).go i H/\∃N:St->Hp->Prop,(∀σ' H',N σ' H'->∃m',m'<m/\W (i+1) m' σ' H')/\∀x H',(Itl K a).yld i H x H'->g x σ H' fun σ2 H2=>tb {D with nx:=N,ct:=N,bk:=D.nx} σ2 H2):=by
 refine⟨fun i m σ H=>m=xs.length-i/\i<=xs.length/\Pv i σ H,⟨xs.length,by simp,Nat.zero_le _,h0⟩,?_⟩
 rintro i m σ H ⟨rfl,hi,p⟩
 have q:=hl i σ H hi p
 by_cases hlt:i<xs.length
 ·refine .inr ⟨⟨xs,xs[i],q,by simp[hlt]⟩,Pv (i+1),fun σ' H' p'=>⟨xs.length-(i+1),by omega,rfl,hlt,p'⟩,fun x H' y=>?_⟩
  obtain⟨e,y⟩:=y
  subst e
  exact hs i x σ _ (y xs q) p
 ·have e:i=xs.length:=by omega
  subst e
  exact .inl ⟨⟨xs,q,Nat.le_refl _⟩,hd σ H p⟩
theorem rh {K:PySem.W.Frag}{a:Addr}{xs:List V}{g:TG}{tb:TS}{D:Ends}{σ:St}{H:Hp} (Pv:Nat->St->Hp->Prop) (h0:Pv 0 σ H) (hl:∀i σ H,i<=xs.length->Pv i σ H->SqT K H a xs)
  (hs:∀i x σ H,xs[i]?=some x->Pv i σ H->g x σ H fun σ2 H2=>tb {D with nx:=Pv (i+1),ct:=Pv (i+1),bk:=D.nx} σ2 H2) (hd:∀σ H,Pv xs.length σ H->D.nx σ H) :
  ∃W:Nat->Nat->St->Hp->Prop,(∃m,W 0 m σ H)/\∀i m σ H,W i m σ H ->
   ((Itt K a).stop i H/\D.nx σ H)∨((Itt K a).go i H/\∃N:St->Hp->Prop,(∀σ' H',N σ' H'->∃m',m'<m/\W (i+1) m' σ' H')/\∀x H',(Itt K a).yld i H x H'->g x σ H' fun σ2 H2=>tb {D with nx:=N,ct:=N,bk:=D.nx} σ2 H2):=by
 refine⟨fun i m σ H=>m=xs.length-i/\i<=xs.length/\Pv i σ H,⟨xs.length,by simp,Nat.zero_le _,h0⟩,?_⟩
 rintro i m σ H ⟨rfl,hi,p⟩
 have q:=hl i σ H hi p
 by_cases hlt:i<xs.length
 ·refine .inr ⟨⟨xs,xs[i],q,by simp[hlt]⟩,Pv (i+1),fun σ' H' p'=>⟨xs.length-(i+1),by omega,rfl,hlt,p'⟩,fun x H' y=>?_⟩
  obtain⟨e,y⟩:=y
  subst e
  exact hs i x σ _ (y xs q) p
 ·have e:i=xs.length:=by omega
  subst e
  exact .inl ⟨⟨xs,q,Nat.le_refl _⟩,hd σ H p⟩
theorem tJ {lo:Int}{n:Nat}{g:TG}{tb:TS}{D:Ends}{σ:St}{H:Hp} (Pv:Nat->St->Hp->Prop) (h0:Pv 0 σ H)
  (hs:∀i σ H,i<n->Pv i σ H->g (.int (lo+i)) σ H fun σ2 H2=>tb {D with nx:=Pv (i+1),ct:=Pv (i+1),bk:=D.nx} σ2 H2) (hd:∀σ H,Pv n σ H->D.nx σ H) :
  ∃W:Nat->Nat->St->Hp->Prop,(∃m,W 0 m σ H)/\∀i m σ H,W i m σ H ->
   ((Itr lo n).stop i H/\D.nx σ H)∨((Itr lo n).go i H/\∃N:St->Hp->Prop,(∀σ' H',N σ' H'->∃m',m'<m/\W (i+1) m' σ' H')/\∀x H',(Itr lo n).yld i H x H'->g x σ H' fun σ2 H2=>tb {D with nx:=N,ct:=N,bk:=D.nx} σ2 H2):=by
 refine⟨fun i m σ H=>m=n-i/\i<=n/\Pv i σ H,⟨n,by simp,Nat.zero_le _,h0⟩,?_⟩
 rintro i m σ H ⟨rfl,hi,p⟩
 by_cases hlt:i<n
 ·refine .inr ⟨hlt,Pv (i+1),fun σ' H' p'=>⟨n-(i+1),by omega,rfl,hlt,p'⟩,fun x H' y=>?_⟩
  obtain⟨e,y⟩:=y
  subst e y
  exact hs i σ _ hlt p
 ·have e:i=n:=by omega
  subst e
  exact .inl ⟨Nat.le_refl _,hd σ H p⟩
abbrev R2:=V->V->Hp->VK->Prop
def OpR (X:Cx) (f:Value->Value->Sem Value) (r:R2):Prop :=
 ∀(pins:List (Addr×Obj)) (s:Shared) (σ:St) (H:Hp) (x y:V) (v u:Value) (Q:VK),Inv X pins σ H s->RelV x v->RelV y u->r x y H Q ->
  wpAny (model X.prog X.w) X.A (f v u) (EP X pins σ Q) X.xe s
def UnR (X:Cx) (f:Value->Sem Value) (r:V->Hp->VK->Prop):Prop :=
 ∀(pins:List (Addr×Obj)) (s:Shared) (σ:St) (H:Hp) (x:V) (v:Value) (Q:VK),Inv X pins σ H s->RelV x v->r x H Q ->
  wpAny (model X.prog X.w) X.A (f v) (EP X pins σ Q) X.xe s
def eJ (X:Cx) (f:Value) (r:List V->Hp->VK->Prop):Prop :=
 ∀(pins:List (Addr×Obj)) (s:Shared) (σ:St) (H:Hp) (xs:List V) (us:List Value) (Q:VK),Inv X pins σ H s->Vals xs us->r xs H Q ->
  wpAny (model X.prog X.w) X.A (call f us) (EP X pins σ Q) X.xe s
def tOp (r:R2) (ta tb:TE):TE:=fun σ H Q=>ta σ H fun x H1=>tb σ H1 fun y H2=>r x y H2 Q
def tUn (r:V->Hp->VK->Prop) (ta:TE):TE:=fun σ H Q=>ta σ H fun x H1=>r x H1 Q
def rI (C:Int->Int->Prop) (g:Int->Int->V):R2:=fun x y H Q=>∃i j,x=.int i/\y=.int j/\C i j/\Q (g i j) H
def rI0 (g:Int->Int->V):R2:=fun x y H Q=>∃i j,x=.int i/\y=.int j/\Q (g i j) H
def rU (g:Int->V):V->Hp->VK->Prop:=fun x H Q=>∃i,x=.int i/\Q (g i) H
section
variable {X:Cx}{a b c:Expr}{ta tb tc:TE}{pos:Pos}
theorem yS (ha:PE X a ta) (hb:PE X b tb) {pins:List (Addr×Obj)}{s:Shared}{σ:St}{H:Hp}{R:V->V->Hp->Prop} (I:Inv X pins σ H s)
  (h:ta σ H fun x H1=>tb σ H1 fun y H2=>R x y H2) {Q:Value->Shared->Prop}{f:Value->Value->Sem Value}
  (hf:∀v u s2 x y H2,Inv X pins σ H2 s2->RelV x v->RelV y u->R x y H2->wpAny (model X.prog X.w) X.A (f v u) Q X.xe s2) :
  wpAny (model X.prog X.w) X.A (eval a X.env) (fun v s₁=>wpAny (model X.prog X.w) X.A (eval b X.env) (fun u s₂=>wpAny (model X.prog X.w) X.A (f v u) Q X.xe s₂) X.xe s₁) X.xe s:=by
 refine thn (ha pins s σ H _ I h) fun v s1 ⟨x,H1,I1,r1,q1⟩=>?_
 refine thn (hb pins s1 σ H1 _ I1 q1) fun u s2 ⟨y,H2,I2,r2,q2⟩=>?_
 exact hf v u s2 x y H2 I2 r1 r2 q2
theorem bb {op:Operator}{r:R2} (ho:OpR X (binaryOp op) r) (ha:PE X a ta) (hb:PE X b tb):PE X (.BinOp a op b pos) (tOp r ta tb):=by
 intro pins s σ H Q I h
 exact wpAny_BinOp (yS ha hb I h fun v u s2 x y H2 I2 rx ry q=>ho pins s2 σ H2 x y v u Q I2 rx ry q)
theorem dW {op:UnaryOp}{r:V->Hp->VK->Prop} (ho:UnR X (unaryOp op) r) (ha:PE X a ta):PE X (.UnaryOp op a pos) (tUn r ta):=by
 intro pins s σ H Q I h
 exact UnaryOp_ (thn (ha pins s σ H _ I h) fun v s1 ⟨x,H1,I1,r1,q1⟩=>ho pins s1 σ H1 x v Q I1 r1 q1)
theorem opI {f:Value->Value->Sem Value}{C:Int->Int->Prop}{g:Int->Int->Int}
  (rule:∀(i j:Int) (t u:Tok) (s:Shared) (Q:Value->Shared->Prop) (E:Value->Shared->Prop),C i j->Q (.int (g i j) s.toks) {s with toks:=s.toks+1}->wpAny (model X.prog X.w) X.A (f (.int i t) (.int j u)) Q E s) :
  OpR X f (rI C fun i j=>.int (g i j)):=by
 intro pins s σ H x y v u Q I rx ry h
 obtain⟨i,j,rfl,rfl,hc,q⟩:=h
 obtain⟨t,rfl⟩:=rx
 obtain⟨t',rfl⟩:=ry
 exact rule i j t t' s _ _ hc ⟨.int (g i j),H,I.tok _,⟨_,rfl⟩,q⟩
theorem zm {f:Value->Value->Sem Value}{g:Int->Int->Int}
  (rule:∀(i j:Int) (t u:Tok) (s:Shared) (Q:Value->Shared->Prop) (E:Value->Shared->Prop),Q (.int (g i j) s.toks) {s with toks:=s.toks+1}->wpAny (model X.prog X.w) X.A (f (.int i t) (.int j u)) Q E s) :
  OpR X f (rI0 fun i j=>.int (g i j)):=by
 intro pins s σ H x y v u Q I rx ry h
 obtain⟨i,j,rfl,rfl,q⟩:=h
 obtain⟨t,rfl⟩:=rx
 obtain⟨t',rfl⟩:=ry
 exact rule i j t t' s _ _ ⟨.int (g i j),H,I.tok _,⟨_,rfl⟩,q⟩
theorem wG {f:Value->Value->Sem Value}{g:Int->Int->Bool}
  (rule:∀(i j:Int) (t u:Tok) (s:Shared) (Q:Value->Shared->Prop) (E:Value->Shared->Prop),Q (.bool (g i j)) s->wpAny (model X.prog X.w) X.A (f (.int i t) (.int j u)) Q E s) :
  OpR X f (rI0 fun i j=>.bl (g i j)):=by
 intro pins s σ H x y v u Q I rx ry h
 obtain⟨i,j,rfl,rfl,q⟩:=h
 obtain⟨t,rfl⟩:=rx
 obtain⟨t',rfl⟩:=ry
 exact rule i j t t' s _ _ ⟨.bl (g i j),H,I,rfl,q⟩
def CDiv (i j:Int):Prop:=0<j/\j<1073741824
def CMul (i j:Int):Prop:=(-(2 ^ 64)<i/\i<2 ^ 64)∨(-(2 ^ 64)<j/\j<2 ^ 64)
theorem CMul.ok {i j:Int} (h:CMul i j):IntMulOk i j:=by
 rcases h with ⟨h1,h2⟩ | ⟨h1,h2⟩
 ·exact .of_left (intBits_le_64 h1 h2)
 ·exact .of_right (intBits_le_64 h1 h2)
theorem cj:OpR X (binaryOp .Add) (rI0 fun i j=>.int (i+j)):=zm fun _ _ _ _ _ _ _ q=>add_int q
theorem cZ:OpR X (binaryOp .Sub) (rI0 fun i j=>.int (i-j)):=zm fun _ _ _ _ _ _ _ q=>sub_int q
theorem mI:OpR X (binaryOp .Mult) (rI CMul fun i j=>.int (i * j)):=opI fun _ _ _ _ _ _ _ hc q=>mul_int q hc.ok
theorem wD:OpR X (binaryOp .FloorDiv) (rI CDiv fun i j=>.int (i / j)):=opI fun i j _ _ _ _ _ hc q=>by
 have h1:(0:Int)<j:=hc.1
 have h2:j<1073741824:=hc.2
 exact floordiv_int (by omega) (by rw[Int.fdiv_eq_ediv_of_nonneg i (by omega)];exact q) (.inl (PyProof.noPylong_small (by omega)))
theorem yn:OpR X (binaryOp .Mod) (rI (fun _ j=>0<j) fun i j=>.int (i % j)):=opI fun i j _ _ _ _ _ hc q=>by
 have h1:(0:Int)<j:=hc
 exact mod_int' (by omega) (by rw[Int.fmod_eq_emod_of_nonneg i (by omega)];exact q)
theorem unI {f:Value->Sem Value}{g:Int->Int}
  (rule:∀(i:Int) (t:Tok) (s:Shared) (Q:Value->Shared->Prop) (E:Value->Shared->Prop),Q (.int (g i) s.toks) {s with toks:=s.toks+1}->wpAny (model X.prog X.w) X.A (f (.int i t)) Q E s) :
  UnR X f (rU fun i=>.int (g i)):=by
 intro pins s σ H x v Q I rx h
 obtain⟨i,rfl,q⟩:=h
 obtain⟨t,rfl⟩:=rx
 exact rule i t s _ _ ⟨.int (g i),H,I.tok _,⟨_,rfl⟩,q⟩
theorem cA:UnR X (unaryOp .USub) (rU fun i=>.int (-i)):=unI fun _ _ _ _ _ q=>neg_int q
end
def scal:V->V->Bool
 | .non,.non=>true | .non,.int _=>true | .int _,.non=>true | .non,.bl _=>true | .bl _,.non=>true | .non,.str _=>true | .str _,.non=>true
 | .int _,.int _=>true | .bl _,.bl _=>true | .str _,.str _=>true | .byt _,.byt _=>true
 | .int _,.str _=>true | .str _,.int _=>true | .bl _,.str _=>true | .str _,.bl _=>true
 | _,_=>false
def rEq:R2:=fun x y H Q=>scal x y=true/\Q (.bl (decide (x=y))) H
def rNe:R2:=fun x y H Q=>scal x y=true/\Q (.bl (!decide (x=y))) H
theorem bJ {i j:Int}:decide (V.int i=V.int j)=(i==j):=by
 rw[Bool.eq_iff_iff]
 simp
theorem vR {i j:Bool}:decide (V.bl i=V.bl j)=(i==j):=by
 rw[Bool.eq_iff_iff]
 simp
theorem rA {i j:Str}:decide (V.str i=V.str j)=(i==j):=by
 rw[Bool.eq_iff_iff]
 simp
theorem rB {i j:Array UInt8}:decide (V.byt i=V.byt j)=(i.toList==j.toList):=by
 rw[Bool.eq_iff_iff]
 cases i
 cases j
 simp
section
variable {X:Cx}{a b c:Expr}{ta tb tc:TE}{pos:Pos}
theorem aU {pins:List (Addr×Obj)}{σ:St}{H:Hp}{s:Shared}{Q:VK}{k k':Bool} (I:Inv X pins σ H s) (q:Q (.bl k) H) (e:k=k'):EP X pins σ Q (.bool k') s:=by
 subst e
 exact⟨.bl k,H,I,rfl,q⟩
theorem bz:OpR X (compareOp .Eq) rEq:=by
 intro pins s σ H x y v u Q I rx ry h
 obtain⟨hs,q⟩:=h
 cases x with
 | non =>
  cases rx
  cases y with
  | non=>cases ry;exact PySem.EqNone.eq_none_none (aU I q (by simp))
  | bl j=>cases ry;exact PySem.EqNone.eq_none_bool (aU I q (by simp))
  | int j=>obtain⟨t',rfl⟩:=ry;exact PySem.EqNone.eq_none_int (aU I q (by simp))
  | str j=>obtain⟨t',rfl⟩:=ry;exact PySem.EqNone.eq_none_str (aU I q (by simp))
  | _=>exact absurd (show false=true from hs) Bool.false_ne_true
 | bl i =>
  cases rx
  cases y with
  | non=>cases ry;exact PySem.EqNone.eq_bool_none (aU I q (by simp))
  | bl j=>cases ry;exact eq_bool (aU I q vR)
  | str j=>obtain⟨t',rfl⟩:=ry;exact PySem.EqMixed.eq_bool_str (aU I q (by simp))
  | _=>exact absurd (show false=true from hs) Bool.false_ne_true
 | int i =>
  obtain⟨t,rfl⟩:=rx
  cases y with
  | non=>cases ry;exact PySem.EqNone.eq_int_none (aU I q (by simp))
  | int j=>obtain⟨t',rfl⟩:=ry;exact eq_int (aU I q bJ)
  | str j=>obtain⟨t',rfl⟩:=ry;exact PySem.EqMixed.eq_int_str (aU I q (by simp))
  | _=>exact absurd (show false=true from hs) Bool.false_ne_true
 | str i =>
  obtain⟨t,rfl⟩:=rx
  cases y with
  | non=>cases ry;exact PySem.EqNone.eq_str_none (aU I q (by simp))
  | bl j=>cases ry;exact PySem.EqMixed.eq_str_bool (aU I q (by simp))
  | int j=>obtain⟨t',rfl⟩:=ry;exact PySem.EqMixed.eq_str_int (aU I q (by simp))
  | str j=>obtain⟨t',rfl⟩:=ry;exact eq_str (aU I q rA)
  | _=>exact absurd (show false=true from hs) Bool.false_ne_true
 | byt i =>
  obtain⟨t,rfl⟩:=rx
  cases y with
  | byt j=>obtain⟨t',rfl⟩:=ry;exact W.eq_bytes (aU I q rB)
  | _=>exact absurd (show false=true from hs) Bool.false_ne_true
 | _=>cases y <;> exact absurd (show false=true from hs) Bool.false_ne_true
theorem jO:OpR X (compareOp .NotEq) rNe:=by
 intro pins s σ H x y v u Q I rx ry h
 obtain⟨hs,q⟩:=h
 cases x with
 | non =>
  cases rx
  cases y with
  | non=>cases ry;exact PySem.EqNone.ne_none_none (aU I q (by simp))
  | bl j=>cases ry;exact PySem.EqNone.ne_none_bool (aU I q (by simp))
  | int j=>obtain⟨t',rfl⟩:=ry;exact PySem.EqNone.ne_none_int (aU I q (by simp))
  | str j=>obtain⟨t',rfl⟩:=ry;exact PySem.EqNone.ne_none_str (aU I q (by simp))
  | _=>exact absurd (show false=true from hs) Bool.false_ne_true
 | bl i =>
  cases rx
  cases y with
  | non=>cases ry;exact PySem.EqNone.ne_bool_none (aU I q (by simp))
  | bl j=>cases ry;exact ne_bool (aU I q (congrArg not vR))
  | str j=>obtain⟨t',rfl⟩:=ry;exact PySem.EqMixed.ne_bool_str (aU I q (by simp))
  | _=>exact absurd (show false=true from hs) Bool.false_ne_true
 | int i =>
  obtain⟨t,rfl⟩:=rx
  cases y with
  | non=>cases ry;exact PySem.EqNone.ne_int_none (aU I q (by simp))
  | int j=>obtain⟨t',rfl⟩:=ry;exact ne_int (aU I q (congrArg not bJ))
  | str j=>obtain⟨t',rfl⟩:=ry;exact PySem.EqMixed.ne_int_str (aU I q (by simp))
  | _=>exact absurd (show false=true from hs) Bool.false_ne_true
 | str i =>
  obtain⟨t,rfl⟩:=rx
  cases y with
  | non=>cases ry;exact PySem.EqNone.ne_str_none (aU I q (by simp))
  | bl j=>cases ry;exact PySem.EqMixed.ne_str_bool (aU I q (by simp))
  | int j=>obtain⟨t',rfl⟩:=ry;exact PySem.EqMixed.ne_str_int (aU I q (by simp))
  | str j=>obtain⟨t',rfl⟩:=ry;exact ne_str (aU I q (congrArg not rA))
  | _=>exact absurd (show false=true from hs) Bool.false_ne_true
 | byt i =>
  obtain⟨t,rfl⟩:=rx
  cases y with
  | byt j=>obtain⟨t',rfl⟩:=ry;exact W.ne_bytes (aU I q (congrArg not rB))
  | _=>exact absurd (show false=true from hs) Bool.false_ne_true
 | _=>cases y <;> exact absurd (show false=true from hs) Bool.false_ne_true
theorem lE:OpR X (compareOp .Lt) (rI0 fun i j=>.bl (decide (i<j))):=wG fun _ _ _ _ _ _ _ q=>lt_int q
theorem qR:OpR X (compareOp .LtE) (rI0 fun i j=>.bl (decide (i<=j))):=wG fun _ _ _ _ _ _ _ q=>le_int q
theorem dg:OpR X (compareOp .Gt) (rI0 fun i j=>.bl (decide (j<i))):=wG fun _ _ _ _ _ _ _ q=>gt_int q
theorem zl:OpR X (compareOp .GtE) (rI0 fun i j=>.bl (decide (j<=i))):=wG fun _ _ _ _ _ _ _ q=>ge_int q
theorem uT:OpR X (compareOp .Is) (fun x y H Q=>y=.non/\Q (.bl (decide (x=.non))) H):=by
 intro pins s σ H x y v u Q I rx ry h
 obtain⟨rfl,q⟩:=h
 cases ry
 refine is_none_gen (aU I q ?_)
 cases x <;> first
  | (cases rx;rfl)
  | (obtain⟨t,rfl⟩:=rx;rfl)
theorem wB:OpR X (compareOp .IsNot) (fun x y H Q=>y=.non/\Q (.bl (!decide (x=.non))) H):=by
 intro pins s σ H x y v u Q I rx ry h
 obtain⟨rfl,q⟩:=h
 cases ry
 refine isnot_none_gen (aU I q ?_)
 cases x <;> first
  | (cases rx;rfl)
  | (obtain⟨t,rfl⟩:=rx;rfl)
theorem nomark (b:Expr) {op:CmpOp} (h:op≠.In:=by decide) (h2:op≠.NotIn:=by decide):behindInMarks op b=false:=by
 have e1:(op==CmpOp.In)=false:=by cases op <;> first | rfl | exact absurd rfl h
 have e2:(op==CmpOp.NotIn)=false:=by cases op <;> first | rfl | exact absurd rfl h2
 cases b <;> simp[behindInMarks,e1,e2]
theorem bI {op:CmpOp}{r:R2} (ho:OpR X (compareOp op) r) (ha:PE X a ta) (hb:PE X b tb) (hm:behindInMarks op b=false):PE X (.Compare a [op] [b] pos) (tOp r ta tb):=by
 intro pins s σ H Q I h
 exact wpAny_Compare1 (yS ha hb I h fun v u s2 x y H2 I2 rx ry q=>ho pins s2 σ H2 x y v u Q I2 rx ry q) hm
def yV (t:TE):TT:=fun σ H Q=>t σ H fun x H'=>∃k,x=.bl k/\Q k H'
theorem aq {op:CmpOp}{r:R2} (ho:OpR X (compareOp op) r) (ha:PE X a ta) (hb:PE X b tb) (hm:behindInMarks op b=false):PT X (.Compare a [op] [b] pos) (yV (tOp r ta tb)):=by
 intro pins s σ H Q I h
 refine wpAny_isTrue_Compare1 (thn (ha pins s σ H _ I h) fun v s1 ⟨x,H1,I1,r1,q1⟩=>thn (hb pins s1 σ H1 _ I1 q1) fun u s2 ⟨y,H2,I2,r2,q2⟩ =>
  thn (ho pins s2 σ H2 x y v u _ I2 r1 r2 q2) fun c s3 ⟨z,H3,I3,r3,k,e,q3⟩=>?_) hm
 subst e
 cases r3
 exact wpAny_truthy_bool ⟨H3,I3,q3⟩
def xY (r r':R2) (ta tb tc:TE):TE:=fun σ H Q=>ta σ H fun x H1=>tb σ H1 fun y H2=>r x y H2 fun z H3=>∃k,z=.bl k /\
 (if k=true then tc σ H3 fun w' H4=>r' y w' H4 Q else Q (.bl false) H3)
theorem nM {op op':CmpOp}{r r':R2} (ho:OpR X (compareOp op) r) (ho':OpR X (compareOp op') r') (ha:PE X a ta) (hb:PE X b tb) (hc:PE X c tc)
  (hm:lastMarks [op,op'] [b,c]=false:=by with_unfolding_all rfl):PE X (.Compare a [op,op'] [b,c] pos) (xY r r' ta tb tc):=by
 intro pins s σ H Q I h
 refine Compare_chain (thn (ha pins s σ H _ I h) fun v s1 ⟨x,H1,I1,r1,q1⟩=>chain_link (thn (hb pins s1 σ H1 _ I1 q1) fun u s2 ⟨y,H2,I2,r2,q2⟩ =>
  thn (ho pins s2 σ H2 x y v u _ I2 r1 r2 q2) fun d s3 ⟨z,H3,I3,r3,k,e,q3⟩=>?_)) hm
 subst e
 cases r3
 refine wpAny_truthy_bool ?_
 cases k with
 | false=>exact ite_ff ⟨.bl false,H3,I3,rfl,q3⟩
 | true=>exact ite_tt (chain_last (thn (hc pins s3 σ H3 _ I3 q3) fun w' s4 ⟨z',H4,I4,r4,q4⟩=>ho' pins s4 σ H4 y z' u w' Q I4 r2 r4 q4))
theorem line63:(sizeLine:Nat)<2 ^ 63:=by rw[sizeLine_eq];decide
theorem vals1 {x:V}{us:List Value} (r:Vals [x] us):∃u,us=[u]/\RelV x u:=by
 cases r with
 | cons r1 r2=>cases r2;exact⟨_,rfl,r1⟩
theorem oZ:eJ X (.builtin "abs") (fun xs H Q=>∃i,xs=[.int i]/\Q (.int (if i<0 then -i else i)) H):=by
 intro pins s σ H xs us Q I r h
 obtain⟨i,rfl,q⟩:=h
 obtain⟨u,rfl,t,rfl⟩:=vals1 r
 exact call_abs_int fun u tk=>⟨.int (if i<0 then -i else i),H,I.tok _,⟨_,rfl⟩,q⟩
theorem vT:eJ X (.builtin "ord") (fun xs H Q=>∃x,xs=[.str x]/\x.length=1/\Q (.int (x.cps.getD 0 0:Nat)) H):=by
 intro pins s σ H xs us Q I r h
 obtain⟨x,rfl,hz,q⟩:=h
 obtain⟨u,rfl,t,rfl⟩:=vals1 r
 exact ord_of_one hz ⟨.int _,H,I.tok _,⟨_,rfl⟩,q⟩
end
structure ObjM (h:Heap) (x dx C:Addr) (mA:Str->Option Value):Prop where
 obj:h.get? x=some (W.instObj C dx)
 ns:h.Ns1 dx mA
 ne:dx≠x
theorem sV {h:Heap}{dx:Addr}{mA:Str->Option Value} (n:h.Ns1 dx mA):∃od,h.get? dx=some od/\∀name,W.lookIn name od=some (mA name):=by
 obtain⟨o,es,ep,ho,hd,hk,_,hm⟩:=n
 refine⟨o,ho,fun name=>?_⟩
 have e:=hm name
 unfold nsFind findBy at e
 rw[← Array.find?_toList] at e
 unfold W.lookIn
 rw[hd]
 dsimp only
 split
 ·rename_i y q
  rw[q] at e
  exact congrArg some e
 ·rename_i q
  rw[q] at e
  have a:es.toList.any (·.refKey)=false:=by
   rw[List.any_eq_false]
   intro y hy
   obtain⟨z,t,hkey⟩:=hk y (Array.mem_toList_iff.mp hy)
   simp[DictEntry.refKey,hkey]
  have a':¬es.toList.any (·.refKey)=true:=by rw[a];exact Bool.false_ne_true
  rw[if_neg a']
  exact congrArg some e
theorem ObjM.look {h:Heap}{x dx C:Addr}{mA:Str->Option Value} (I:ObjM h x dx C mA):∃od,W.InstAt h x (W.instObj C dx) C (some od)/\∀name,W.lookIn name od=some (mA name) :=
 let ⟨od,ho,hl⟩:=sV I.ns
 ⟨od,⟨I.obj,rfl,rfl,ho⟩,hl⟩
section
variable {prog:Program}{w:World}{A:Around}{E:Value->Shared->Prop}{s:Shared}{K:W.Frag}{x dx C f:Addr}{mA:Str->Option Value}{name:Str}{v:Value}
theorem xp {expr:Bool}{Q:Value->Shared->Prop} (X:K.In s.heap) (I:ObjM s.heap x dx C mA) (hg:W.plainGet K C name=true) (hh:W.hasDictIn K C=true)
  (ha:W.findIn K (.ref C) name=some none) (hv:mA name=some v) (hv':W.handedIn v=true) (h:Q v {s with toks:=s.toks+1}) :
  wpAny (model prog w) A (getAttr (.ref x) name expr) Q E s:=by
 obtain⟨od,J,hl⟩:=I.look
 exact W.get_value X J (W.plainGet_of hg).1 (W.findObj_own hh ha rfl (by rw[hl,hv])) hv' h
theorem wm {ns:List Str}{Q:Unit->Shared->Prop} (X:K.In s.heap) (I:ObjM s.heap x dx C mA)
  (hs:W.findIn K (.ref C) "__setattr__" = some (some (.builtin "object.__setattr__"))) (hp:W.plainOver K C=true) (ht:W.takerIn K C name=some none) (hh:W.hasDictIn K C=true)
  (hw:PySem.Within mA ns) (hsz:ns.length<=sizeLine)
  (h:∀h',ObjM h' x dx C (fun y=>if y=name then some v else mA y)->Heap.SameBut dx s.heap h'->Q () {s with heap:=h',toks:=s.toks+2}) :
  wpAny (model prog w) A (setAttr (.ref x) name v) Q E s:=by
 obtain⟨od,J,hl⟩:=I.look
 refine W.set_plain X J hs (W.osa_open (s:={s with toks:=s.toks+1}) (r:=none) X J hp ht fun b=>?_)
 obtain⟨cd,hc,hd'⟩:=W.any_some hh
 have hx:s.heap.get? x=some ⟨.ref C,some dx,.plain,#[]⟩:=I.obj
 refine wpAny_bind (wpAny_pure (wpAny_bind (wpAny_bind (wpAny_loadPart hx (wpAny_bind (W.Looks.here (s:={s with toks:=s.toks+1}) (W.looks_clsIn X hc) ?_))))))
 rw[hd']
 refine wpAny_pure (a:=some dx) (wpAny_bind (wpAny_pure (wpAny_bind ?_)))
 refine wpAny_nsSet1 (s:={s with toks:=s.toks+1}) I.ns fun h' hn2 hs2=>?_
 obtain⟨oD,esD,epD,hoD,hdD,hcD⟩:=hn2.count (PySem.Within.cons name v hw)
 refine wpAny_bind (wpAny_lookBehind hoD (by rw[hdD];exact pastItsLine_dict (Nat.le_trans hcD (by rw[List.length_cons];omega))) ?_)
 exact wpAny_pure (h _ ⟨(hs2.2 _ (Ne.symm I.ne)).trans I.obj,hn2,I.ne⟩ hs2)
theorem oj {R:Result->Shared->Prop}{vs:List Value}{kw:List (Str×Value)} (X:K.In s.heap) (hm:W.makesIn K C=true)
  (hi:W.findIn K (.ref C) "__init__" = some (some (.ref f))) (hf:W.typeIn K (.ref f)=some (.type "function"))
  (h:codeAny (model prog w) (A.under (.builtin "type.__call__" ⟨.ref C::vs,kw⟩)) (.call (.ref f) ⟨.ref (s.heap.objs.size+1)::vs,kw⟩) (W.InitBack (s.heap.objs.size+1) R)
   {s with heap:=(s.heap.push W.emptyDict).push (W.instObj C s.heap.objs.size)}) :
  codeAny (model prog w) A (.call (.ref C) ⟨vs,kw⟩) R s:=by
 obtain⟨hh,g,d,t,os⟩:=s
 exact W.make_core (W.makes_of X hm) (W.looks_findIn X hi) (fun self=>W.bind_fn X self hf) (.inl rfl) h
end
def dP (f:Str) (v:V):List (Str×V)->List (Str×V)
 | []=>[(f,v)]
 | (g,x)::r=>if g=f then (g,v)::r else (g,x)::dP f v r
theorem cb (f g:Str) (v:V):∀fs:List (Str×V),(dP f v fs).lookup g=if g=f then some v else fs.lookup g
 | []=>by
  show List.lookup g [(f,v)]=_
  by_cases h:g=f
  ·have hb:(g==f)=true:=beq_iff_eq.mpr h
   simp only[List.lookup,hb,if_pos h]
  ·have hb:(g==f)=false:=beq_eq_false_iff_ne.mpr h
   simp only[List.lookup,hb,if_neg h]
 | (k,x)::r=>by
  have ih:=cb f g v r
  rw[show dP f v ((k,x)::r)=(if k=f then (k,v)::r else (k,x)::dP f v r) from rfl]
  by_cases hk:k=f
  ·rw[if_pos hk]
   by_cases h:g=k
   ·have hb:(g==k)=true:=beq_iff_eq.mpr h
    simp only[List.lookup,hb,if_pos (h.trans hk)]
   ·have hb:(g==k)=false:=beq_eq_false_iff_ne.mpr h
    simp only[List.lookup,hb,if_neg (fun e:g=f=>h (e.trans hk.symm))]
  ·rw[if_neg hk]
   by_cases h:g=k
   ·have hb:(g==k)=true:=beq_iff_eq.mpr h
    simp only[List.lookup,hb,if_neg (fun e:g=f=>hk (h.symm.trans e))]
   ·have hb:(g==k)=false:=beq_eq_false_iff_ne.mpr h
    simp only[List.lookup,hb]
    exact ih
theorem iA (f:Str) (v:V):∀fs:List (Str×V),f∈(dP f v fs).map (·.1)/\∀g,g∈fs.map (·.1)->g∈(dP f v fs).map (·.1)
 | []=>⟨by simp[dP],fun g h=>by simp at h⟩
 | (k,x)::r=>by
  obtain⟨i1,i2⟩:=iA f v r
  rw[show dP f v ((k,x)::r)=(if k=f then (k,v)::r else (k,x)::dP f v r) from rfl]
  by_cases hk:k=f
  ·rw[if_pos hk]
   subst hk
   exact⟨by simp,fun g h=>by simpa using h⟩
  ·rw[if_neg hk]
   refine⟨?_,fun g h=>?_⟩
   ·rw[List.map_cons]
    exact List.mem_cons_of_mem _ i1
   ·rw[List.map_cons] at h ⊢
    rcases List.mem_cons.mp h with e | e
    ·exact List.mem_cons.mpr (.inl e)
    ·exact List.mem_cons_of_mem _ (i2 g e)
theorem i4 (f:Str) (v:V):∀fs:List (Str×V),(dP f v fs).length<=fs.length+1
 | []=>by simp[dP]
 | (k,x)::r=>by
  have ih:=i4 f v r
  rw[show dP f v ((k,x)::r)=(if k=f then (k,v)::r else (k,x)::dP f v r) from rfl]
  by_cases hk:k=f
  ·rw[if_pos hk,List.length_cons,List.length_cons];omega
  ·rw[if_neg hk,List.length_cons,List.length_cons];omega
theorem RelO.some_of {v:V}{o:Option Value} (r:RelO (some v) o):∃u,o=some u/\RelV v u:=by
 cases o with
 | none=>exact (show False from r).elim
 | some u=>exact⟨u,rfl,r⟩
theorem lQ {v:V}{u:Value} (r:RelV v u):W.handedIn u=true:=by
 cases v with
 | non=>cases (show u=Value.none from r);rfl
 | bl b=>cases (show u=Value.bool b from r);rfl
 | int i=>obtain⟨t,e⟩:=(show ∃t,u=Value.int i t from r);cases e;rfl
 | str x=>obtain⟨t,e⟩:=(show ∃t,u=Value.str x t from r);cases e;rfl
 | byt b=>obtain⟨t,e⟩:=(show ∃t,u=Value.bytes b t from r);cases e;rfl
 | flt b=>obtain⟨t,e⟩:=(show ∃t,u=Value.float b t from r);cases e;rfl
 | ref a=>cases (show u=Value.ref a from r);rfl
 | ty n=>cases (show u=Value.type n from r);rfl
section
variable {P:Program}{w:World}{H H':Hp}{h h':Heap}{a C dx:Addr}{fs fs':List (Str×V)}
theorem re (hok:HOk P w H h) (e:H a=some (.ins C dx fs)):∃mA,ObjM h a dx C mA/\(∀f,RelO (fs.lookup f) (mA f))/\PySem.Within mA (fs.map (·.1))/\fs.length<=1000/\H dx=some (.own a):=by
 obtain⟨d,z,ne,ob,mA,n,r,q⟩:=(show ObjOk P w H h a (.ins C dx fs) from hok a _ e)
 exact⟨mA,⟨ob,n,ne⟩,r,q,z,d⟩
end
structure Cls (K:W.Frag) (C:Addr):Prop where
 pg:W.plainGet K C Str.empty=true
 hd:W.hasDictIn K C=true
 po:W.plainOver K C=true
 sa:W.findIn K (.ref C) "__setattr__" = some (some (.builtin "object.__setattr__"))
theorem Cls.get {K:W.Frag}{C:Addr} (c:Cls K C) (f:Str):W.plainGet K C f=true:=c.pg
def NoAttr (K:W.Frag) (C:Addr) (f:Str):Prop:=W.findIn K (.ref C) f=some none
theorem NoAttr.taker {K:W.Frag}{C:Addr}{f:Str} (n:NoAttr K C f):W.takerIn K C f=some none:=by
 unfold W.takerIn
 rw[show W.findIn K (.ref C) f=some none from n]
 rfl
section
variable {X:Cx}{pins:List (Addr×Obj)}{σ:St}{H:Hp}{s:Shared}{a C dx:Addr}{fs:List (Str×V)}{f:Str}{v:V}{A:Around}{E:Value->Shared->Prop}
theorem pU {b:Bool}{Q:Value->Shared->Prop} (I:Inv X pins σ H s) (e:H a=some (.ins C dx fs)) (c:Cls X.K C) (n:NoAttr X.K C f) (l:fs.lookup f=some v)
  (h:∀u s',Inv X pins σ H s'->RelV v u->Q u s'):wpAny (model X.prog X.w) A (getAttr (.ref a) f b) Q E s:=by
 obtain⟨mA,O,r,_,_,_⟩:=re I.hok e
 obtain⟨u,hu,ru⟩:=RelO.some_of (v:=v) (o:=mA f) (by rw[← l];exact r f)
 exact xp I.kIn O (c.get f) c.hd n hu (lQ ru) (h u _ (I.tok _) ru)
theorem pz {y:V}{u:Value}{Q:Unit->Shared->Prop} (I:Inv X pins σ H s) (e:H a=some (.ins C dx fs)) (c:Cls X.K C) (n:NoAttr X.K C f) (hl:fs.length<1000) (ry:RelV y u)
  (h:∀s',Inv X pins σ (upd H a (.ins C dx (dP f y fs))) s'->Q () s'):wpAny (model X.prog X.w) A (setAttr (.ref a) f u) Q E s:=by
 obtain⟨mA,O,r,wi,_,ho⟩:=re I.hok e
 have hz:(fs.map (·.1)).length<=sizeLine:=by rw[List.length_map,sizeLine_eq];omega
 refine wm I.kIn O c.sa c.po n.taker c.hd wi hz fun h' O' sb=>h _ ?_
 have hd:∃o,h'.get? dx=some o:=let ⟨o,_,_,e',_⟩:=O'.ns;⟨o,e'⟩
 refine I.write (x:=a) (e:=dx) (by rw[e];exact True.intro) (.inr ho) (fun b q hb z=>(sb.2 b hb).trans z) hd ?_
 refine⟨by rw[ai O.ne];exact ho,?_,O.ne,O'.obj,_,O'.ns,fun g=>?_,fun g hg=>?_⟩
 ·have:=i4 f y fs;omega
 ·show RelO ((dP f y fs).lookup g) (if g=f then some u else mA g)
  rw[cb]
  by_cases q:g=f
  ·rw[if_pos q,if_pos q];exact ry
  ·rw[if_neg q,if_neg q];exact r g
 ·by_cases q:g=f
  ·rw[q];exact (iA f y fs).1
  ·refine (iA f y fs).2 g (wi g fun z=>hg ?_)
   show (if g=f then some u else mA g)=none
   rw[if_neg q];exact z
theorem Inv.made (I:Inv X pins σ H s):Inv X pins σ (upd (upd H s.heap.objs.size (.own (s.heap.objs.size+1))) (s.heap.objs.size+1) (.ins C s.heap.objs.size []))
  {s with heap:=(s.heap.push W.emptyDict).push (W.instObj C s.heap.objs.size)}:=by
 have e1:(s.heap.push W.emptyDict).get? s.heap.objs.size=some W.emptyDict:=Heap.get?_push_size s.heap rfl
 have e2:((s.heap.push W.emptyDict).push (W.instObj C s.heap.objs.size)).get? (s.heap.objs.size+1)=some (W.instObj C s.heap.objs.size):=by
  have:=Heap.get?_push_size (s.heap.push W.emptyDict) (o:=W.instObj C s.heap.objs.size) rfl
  rwa [Heap.size_push] at this
 have e3:(s.heap.push W.emptyDict).Ns s.heap.objs.size (fun _=>none):=⟨W.emptyDict,#[],_,e1,rfl,(fun e he=>absurd he (by simp)),fun _=>rfl⟩
 have I1:=I.laid (a:=s.heap.objs.size) (o:=.own (s.heap.objs.size+1)) (h':=s.heap.push W.emptyDict) (t':=s.toks) (fun b u q=>Heap.get?_push_of_some _ q) (Nat.le_refl _) ⟨_,e1⟩
 refine I1.laid (a:=s.heap.objs.size+1) (o:=.ins C s.heap.objs.size []) (t':=s.toks) (fun b u q=>Heap.get?_push_of_some _ q) (Nat.le_of_eq (Heap.size_push _ _)) ?_
 have ne:s.heap.objs.size≠s.heap.objs.size+1:=Nat.ne_of_lt (Nat.lt_succ_self _)
 refine⟨by rw[ai ne,ac],Nat.zero_le _,ne,e2,fun _=>none,(Heap.Ns1.of_empty e3).at fun o q=>Heap.get?_push_of_some _ q,fun _=>True.intro,fun y hy=>absurd rfl hy⟩
theorem rE {prog:Program}{w:World}{env:Env}{e:Expr}{f:Str}{pos:Pos}{s:Shared}{Q:Value->Shared->Prop} (hb:attributeBase e f env (eval e env)=eval e env)
  (h:wpAny (model prog w) A (eval e env) (fun o s₁=>wpAny (model prog w) A (getAttr o f true) Q E s₁) E s):wpAny (model prog w) A (eval (.Attribute e f pos) env) Q E s :=
 Attribute_any_ h (by rw[arm_eval_Attribute,hb])
end
def y6 (K:W.Frag) (ta:TE) (f:Str):TE:=fun σ H Q=>ta σ H fun x H1=>∃a C dx fs v,x=.ref a/\H1 a=some (.ins C dx fs)/\Cls K C/\NoAttr K C f/\fs.lookup f=some v/\Q v H1
def z4 (K:W.Frag) (ta tv:TE) (f:Str):TS:=fun D σ H=>tv σ H fun y H1=>ta σ H1 fun x H2=>∃a C dx fs,x=.ref a/\H2 a=some (.ins C dx fs)/\Cls K C/\NoAttr K C f/\fs.length<1000 /\
 D.nx σ (upd H2 a (.ins C dx (dP f y fs)))
section
variable {X:Cx}{o e value:Expr}{f:Str}{pos pos' tpos:Pos}{ta tv:TE}
theorem ci (he:PE X e ta) (hb:attributeBase e f X.env (eval e X.env)=eval e X.env):PE X (.Attribute e f pos) (y6 X.K ta f):=by
 intro pins s σ H Q I h
 refine rE hb (thn (he pins s σ H _ I h) fun u s1 ⟨x,H1,I1,rx,a,C,dx,fs,v,ex,ea,c,n,l,q⟩=>?_)
 subst ex
 obtain rfl:u=Value.ref a:=rx
 exact pU I1 ea c n l fun u' s2 I2 ru=>⟨v,H1,I2,ru,q⟩
theorem ig (ha:PE X o ta) (hv:PE X value tv) (hs:swapsWith value (some (.Attribute o f pos')) pos.line X.env=pure false):PS X (.Assign [.Attribute o f pos'] value pos) (z4 X.K ta tv f):=by
 intro pins s σ H D I h
 refine plainObj_wpAny_Assign_Attribute (thn (hv pins s σ H _ I h) fun u s1 ⟨y,H1,I1,ry,q⟩=>thn (ha pins s1 σ H1 _ I1 q) fun ov s2 ⟨x,H2,I2,rx,a,C,dx,fs,ex,ea,c,n,l,q2⟩=>?_) hs
 subst ex
 obtain rfl:ov=Value.ref a:=rx
 exact pz I2 ea c n l ry fun s3 I3=>⟨σ,_,I3,q2⟩
end
section
variable {X:Cx}{pins:List (Addr×Obj)}{σ:St}{H:Hp}{s:Shared}{A:Around}{E:Value->Shared->Prop}{Q:Value->Shared->Prop}{c:Value}{b:Bool}
end
structure Room (k:Nat) (A:Around):Prop where
 hd:A.handled=none
 dp:A.depth+3 * k+5<recursionLimit
 un:A.units+16 * k+200<cLine
theorem Room.mono {j k:Nat}{A:Around} (r:Room k A) (h:j<=k):Room j A:=⟨r.hd,by have:=r.dp;omega,by have:=r.un;omega⟩
theorem Room.deeper {k:Nat}{A:Around} (r:Room (k+1) A) (env:Env):Room k (A.deeper env) :=
 ⟨r.hd,by have:=r.dp;show A.depth+1+3 * k+5<_;omega,by have:=r.un;show A.units+3+16 * k+200<_;omega⟩
theorem jV {A:Around}{C:Addr}{us:List Value}{kw:List (Str×Value)}:(A.under (.builtin "type.__call__" ⟨.ref C::us,kw⟩)).depth=A.depth+1:=by
 first | rfl | simp[Around.under,Code.weight,Code.isCreation,Code.isGuard,Code.isCaller,Code.frames,Code.isFrame,guardIds]
theorem jU {A:Around}{C:Addr}{us:List Value}{kw:List (Str×Value)}:(A.under (.builtin "type.__call__" ⟨.ref C::us,kw⟩)).units=A.units+1:=by
 first | rfl | simp[Around.under,Code.cUnits,Code.frames,Code.isFrame]
theorem Room.make {k:Nat}{A:Around} (r:Room (k+1) A) (C:Addr) (us:List Value) (kw:List (Str×Value)):Room k (A.under (.builtin "type.__call__" ⟨.ref C::us,kw⟩)) :=
 ⟨r.hd,by have:=r.dp;rw[jV];omega,by have:=r.un;rw[jU];omega⟩
theorem Room.depth {k:Nat}{A:Around} (r:Room k A):A.depth<recursionLimit:=by have:=r.dp;omega
theorem Room.units {k:Nat}{A:Around} (r:Room k A):A.units+64<cLine:=by have:=r.un;omega
def xU:TA:=fun _ H Q=>Q [] H
def nk (ta:TE) (tr:TA):TA:=fun σ H Q=>ta σ H fun x H1=>tr σ H1 fun xs H2=>Q (x::xs) H2
section
variable {X:Cx}{e:Expr}{es:List Expr}{te:TE}{t:TA}{pos:Pos}
theorem ag:PA X [] xU:=fun _ _ _ _ H Q I h=>Calls.spliced_nil ⟨[],H,I,.nil,h⟩
theorem aa (ha:PE X e te) (hr:PA X es t) (hs:starEach (e::es) X.env=(false,eval e X.env)::starEach es X.env:=by rfl):PA X (e::es) (nk te t):=by
 intro pos pins s σ H Q I h
 rw[hs]
 show wpAny _ _ (spliced ((false,eval e X.env)::backTo pos (starEach es X.env))) _ _ s
 refine Calls.spliced_cons (thn (ha pins s σ H _ I h) fun u s1 ⟨x,H1,I1,r1,q1⟩=>?_)
 exact thn (hr pos pins s1 σ H1 _ I1 q1) fun us s2 ⟨xs,H2,I2,r2,q2⟩=>⟨x::xs,H2,I2,.cons r1 r2,q2⟩
def zN (t:TA):TE:=fun σ H Q=>t σ H fun xs H1=>xs.length<=sizeLine/\∀p,H1 p=none->Q (.ref p) (upd H1 p (.tup xs))
def zT (t:TA):TE:=fun σ H Q=>t σ H fun xs H1=>xs.length<=sizeLine/\∀p,H1 p=none->Q (.ref p) (upd H1 p (.lst xs))
theorem bW {x1} (h:PA X es t):PE X (.Tuple es x1 pos) (zN t):=by
 intro pins s σ H Q I hq
 refine wpAny_Tuple_spliced (thn (h pos pins s σ H _ I hq) fun us s1 ⟨xs,H1,I1,r,z,q⟩=>⟨by rw[← r.length];exact z,?_⟩)
 have hf:H1 s1.heap.objs.size=none:=I1.hok.fresh (Nat.le_refl _)
 refine⟨.ref s1.heap.objs.size,upd H1 s1.heap.objs.size (.tup xs),I1.laid (t':=s1.toks) (fun b u e=>Heap.get?_push_of_some _ e) (Nat.le_refl _) ?_,rfl,q _ hf⟩
 exact⟨z,us,r,⟨_,Heap.get?_push_size _ rfl,rfl,⟨_,rfl⟩,rfl⟩⟩
theorem bn (h:PA X es t):PE X (.List es pos) (zT t):=by
 intro pins s σ H Q I hq
 refine wpAny_List_spliced (thn (h pos pins s σ H _ I hq) fun us s1 ⟨xs,H1,I1,r,z,q⟩=>⟨by rw[← r.length];exact z,?_⟩)
 have hf:H1 s1.heap.objs.size=none:=I1.hok.fresh (Nat.le_refl _)
 refine⟨.ref s1.heap.objs.size,upd H1 s1.heap.objs.size (.lst xs),I1.laid (t':=s1.toks) (fun b u e=>Heap.get?_push_of_some _ e) (Nat.le_refl _) ?_,rfl,q _ hf⟩
 exact⟨z,us,0,r,Heap.get?_push_size _ rfl⟩
end
abbrev Sp:=List V->Hp->VK->XK->Prop
abbrev CXT:=List Env->Hp->Shared->XK->Value->Shared->Prop
structure Env0 (P:Program) (w:World) (K:W.Frag) (mg:Str->Option Value) (base:Heap) (A:Around) (outer:List Env) (s:Shared) (H:Hp):Prop where
 frames:A.frames=some outer
 mod:Mod K mg base
 bs:∀b o,base.get? b=some o->s.heap.get? b=some o/\H b=none
 bsz:base.objs.size<=s.heap.objs.size
 funs:s.heap.FunFrames base outer
 frf:∀b∈frs outer,H b=none
 hok:HOk P w H s.heap
 bare:AllBare s.gens
def CE (outer:List Env) (P:Program) (w:World) (H:Hp) (s:Shared) (Q:VK) (u:Value) (s':Shared):Prop :=
 ∃v H',s'.os=s.os/\AllBare s'.gens/\Un (frs outer) [] H H' s.heap s'.heap/\HOk P w H' s'.heap/\RelV v u/\Q v H'
def CR (CX:CXT) (outer:List Env) (P:Program) (w:World) (H:Hp) (s:Shared) (Q:VK) (E:XK) (r:Result) (s':Shared):Prop :=
 match r with
 | .ok (.ret u)=>CE outer P w H s Q u s'
 | .ok _=>False
 | .error e=>CX outer H s E e s'
structure FnOk (P:Program) (w:World) (K:W.Frag) (mg:Str->Option Value) (base:Heap) (CX:CXT) (k:Nat) (f:Addr) (fd:FuncData) (ps:List Str) (sp:Sp):Prop where
 len:∀vs H Q E,sp vs H Q E->vs.length=ps.length
 run:∀(A:Around) (outer:List Env) (s:Shared) (H:Hp) (args:Args) (us:List Value) (vs:List V) (Q:VK) (E:XK),Room k A->Env0 P w K mg base A outer s H->BindsTo s fd args (ps.zip us)->Vals vs us->sp vs H Q E ->
  codeAny (model P w) A (.call (.ref f) args) (CR CX outer P w H s Q E) s
theorem Env0.make {P:Program}{w:World}{K:W.Frag}{mg:Str->Option Value}{base:Heap}{A:Around}{outer:List Env}{s:Shared}{H:Hp} (e:Env0 P w K mg base A outer s H) (C:Addr) (us:List Value) (kw:List (Str×Value)) :
  Env0 P w K mg base (A.under (.builtin "type.__call__" ⟨.ref C::us,kw⟩)) outer s H:=⟨by first | exact e.frames | (simpa[Around.under,Code.envs,Code.isFrame,pushEnvs] using e.frames),e.mod,e.bs,e.bsz,e.funs,e.frf,e.hok,e.bare⟩
section
variable {X:Cx}{pins:List (Addr×Obj)}{σ:St}{H:Hp}{s s':Shared}
theorem Inv.env0 (I:Inv X pins σ H s):Env0 X.prog X.w X.K X.mg X.base X.A X.stack s H :=
 ⟨I.ok.frames,I.ok.mod,I.bs,Nat.le_trans I.ok.bsz I.sz,I.stack,I.stkFree,I.hok,I.bare⟩
theorem Inv.after {Q:VK}{u:Value} (I:Inv X pins σ H s) (h:CE X.stack X.prog X.w H s Q u s'):EP X pins σ Q u s':=by
 obtain⟨v,H',os,bare,un,hok,r,q⟩:=h
 obtain⟨hh,g,d,t,os'⟩:=s'
 obtain rfl:os'=s.os:=os
 exact⟨v,H',I.call (h':=hh) (g':=g) (d':=d) (t':=t) (ch:=[]) un hok bare (fun b z=>absurd z (by simp)),r,q⟩
end
def uf (sp:Sp) (dvs:List V) (E:XK) (t:TA):TE:=fun σ H Q=>t σ H fun vs H1=>sp (vs++dvs) H1 Q E
def xE (C:Addr) (sp:Sp) (dvs:List V) (E:XK) (t:TA):TE:=fun σ H Q=>t σ H fun vs H1=>∀x dx,H1 x=none->H1 dx=none->dx≠x ->
 sp (.ref x::(vs++dvs)) (upd (upd H1 dx (.own x)) x (.ins C dx [])) (fun v H2=>v=.non/\Q (.ref x) H2) E
def Binds (K:W.Frag) (fd:FuncData) (ps:List Str) (ds:List Value):Prop :=
 ∀(s:Shared) (us:List Value),K.In s.heap->(us++ds).length=ps.length->BindsTo s fd ⟨us,[]⟩ (ps.zip (us++ds))
theorem Binds.all {K:W.Frag}{fd:FuncData}{ps:List Str} (h:∀us:List Value,us.length=ps.length->bindArgs fd ⟨us,[]⟩=pure (ps.zip us)):Binds K fd ps []:=fun s us _ hl=>by
 rw[List.append_nil] at hl ⊢
 exact .of_eq (h us hl)
def Passes (CX:CXT) (X:Cx) (E:XK):Prop:=∀(pins:List (Addr×Obj)) (σ:St) (H:Hp) (s:Shared) (e:Value) (s':Shared),Inv X pins σ H s->CX X.stack H s E e s'->X.xe e s'
section
variable {X:Cx}{CX:CXT}{k:Nat}{f C:Addr}{fd:FuncData}{ps:List Str}{sp:Sp}{dvs:List V}{ds:List Value}{E:XK}{x m:Str}{p pos apos:Pos}{e o:Expr}{es:List Expr}{ta:TE}{t:TA}
theorem yd {pins:List (Addr×Obj)}{σ:St}{H:Hp}{s:Shared}{Q:VK}{us:List Value}{vs:List V} (F:FnOk X.prog X.w X.K X.mg X.base CX k f fd ps sp) (hr:Room k X.A) (hb:Binds X.K fd ps ds) (hd:Vals dvs ds) (hx:Passes CX X E)
  (I:Inv X pins σ H s) (r:Vals vs us) (h:sp (vs++dvs) H Q E):wpAny (model X.prog X.w) X.A (call (.ref f) us) (EP X pins σ Q) X.xe s:=by
 have r2:Vals (vs++dvs) (us++ds):=r.append hd
 have hl:(us++ds).length=ps.length:=by rw[← r2.length];exact F.len _ _ _ _ h
 refine wpAny_call (codeAny_mono (F.run X.A X.stack s H ⟨us,[]⟩ (us++ds) (vs++dvs) Q E hr I.env0 (hb s us I.kIn hl) r2 h) fun r s' hq=>?_)
 cases r with
 | error e=>exact hx pins σ H s e s' I hq
 | ok fl =>
  cases fl with
  | ret u=>exact I.after hq
  | next=>exact False.elim hq
  | brk=>exact False.elim hq
  | cont=>exact False.elim hq
theorem aE (F:FnOk X.prog X.w X.K X.mg X.base CX k f fd ps sp) (hr:Room k X.A) (hg:Gl X x) (hm:X.mg x=some (.ref f)) (hk:W.keepIn X.K (.ref f)=true) (hb:Binds X.K fd ps ds) (hd:Vals dvs ds) (hx:Passes CX X E)
  (ha:PA X (e::es) t) (hdb:(x==("__debug__":Str))=false:=by decide) (he:starEach (e::es) X.env=(false,eval e X.env)::starEach es X.env:=by rfl) (hpl:(backTo pos (starEach es X.env)).any (·.1)=false:=by rfl) :
  PE X (.Call (.Name x p) (e::es) [] pos) (uf sp dvs E t):=by
 intro pins s σ H Q I h
 refine wpAny_Call_Name_kw (cU I hg hm ?_ hdb)
 refine W.callWith_K (h₀:=X.base) I.ok.mod.kin hk (thn (ha pos pins s σ H _ I h) fun us s1 ⟨vs,H1,I1,r,q⟩=>⟨I1.kIn,?_⟩) he hpl
 exact yd F hr hb hd hx I1 r q
structure Mk (K:W.Frag) (C f:Addr):Prop where
 makes:W.makesIn K C=true
 init:W.findIn K (.ref C) "__init__" = some (some (.ref f))
 fn:W.isFn K (.ref f)=true
 kp:W.keepIn K (.ref C)=true
theorem uA {pins:List (Addr×Obj)}{σ:St}{H:Hp}{s:Shared}{Q:VK}{us:List Value}{vs:List V} (M:Mk X.K C f) (F:FnOk X.prog X.w X.K X.mg X.base CX k f fd ps sp) (hr:Room (k+1) X.A) (hb:Binds X.K fd ps ds) (hd:Vals dvs ds)
  (hx:Passes CX X E) (I:Inv X pins σ H s) (r:Vals vs us)
  (h:∀x dx,H x=none->H dx=none->dx≠x->sp (.ref x::(vs++dvs)) (upd (upd H dx (.own x)) x (.ins C dx [])) (fun v H2=>v=.non/\Q (.ref x) H2) E) :
  wpAny (model X.prog X.w) X.A (call (.ref C) us) (EP X pins σ Q) X.xe s:=by
 have hq:=h (s.heap.objs.size+1) s.heap.objs.size (I.hok.fresh (Nat.le_succ _)) (I.hok.fresh (Nat.le_refl _)) (Nat.ne_of_lt (Nat.lt_succ_self _))
 have I2:=Inv.made (C:=C) I
 have r2:Vals (V.ref (s.heap.objs.size+1)::(vs++dvs)) (Value.ref (s.heap.objs.size+1)::(us++ds)):=.cons rfl (r.append hd)
 have hl:(Value.ref (s.heap.objs.size+1)::us++ds).length=ps.length:=by
  have e:=r2.length
  rw[F.len _ _ _ _ hq] at e
  exact e.symm
 refine wpAny_call (oj (f:=f) I.kIn M.makes M.init (beq_iff_eq.mp M.fn) (codeAny_mono (F.run _ X.stack _ _ ⟨Value.ref (s.heap.objs.size+1)::us,[]⟩ (Value.ref (s.heap.objs.size+1)::(us++ds)) _ _ E (hr.make C us [])
  (I2.env0.make C us []) (hb _ (Value.ref (s.heap.objs.size+1)::us) I2.kIn hl) r2 hq) fun r s' hq'=>?_))
 cases r with
 | error e=>exact hx pins σ _ _ e s' I2 hq'
 | ok fl =>
  cases fl with
  | ret u =>
   obtain⟨v,H',I3,rv,ev,q3⟩:=I2.after hq'
   subst ev
   exact⟨rv,⟨V.ref (s.heap.objs.size+1),H',I3,rfl,q3⟩⟩
  | next=>exact False.elim hq'
  | brk=>exact False.elim hq'
  | cont=>exact False.elim hq'
theorem gq (M:Mk X.K C f) (F:FnOk X.prog X.w X.K X.mg X.base CX k f fd ps sp) (hr:Room (k+1) X.A) (hg:Gl X x) (hm:X.mg x=some (.ref C)) (hb:Binds X.K fd ps ds) (hd:Vals dvs ds) (hx:Passes CX X E)
  (ha:PA X (e::es) t) (hdb:(x==("__debug__":Str))=false:=by decide) (he:starEach (e::es) X.env=(false,eval e X.env)::starEach es X.env:=by rfl) (hpl:(backTo pos (starEach es X.env)).any (·.1)=false:=by rfl) :
  PE X (.Call (.Name x p) (e::es) [] pos) (xE C sp dvs E t):=by
 intro pins s σ H Q I h
 refine wpAny_Call_Name_kw (cU I hg hm ?_ hdb)
 refine W.callWith_K (h₀:=X.base) I.ok.mod.kin M.kp (thn (ha pos pins s σ H _ I h) fun us s1 ⟨vs,H1,I1,r,q⟩=>⟨I1.kIn,?_⟩) he hpl
 exact uA M F hr hb hd hx I1 r q
end
section
variable {X:Cx}{CX:CXT}{k:Nat}{f C:Addr}{fd:FuncData}{ps ks:List Str}{sp:Sp}{E:XK}{x m:Str}{p pos apos kpos:Pos}{e o:Expr}{es:List Expr}{kws:List Keyword}{te ta:TE}{t tk:TA}{nm:Option Str}
variable {g:List Value->List Value->List Value}{gV:List V->List V->List V}
end
structure FnScope (N P:List Str) (sc:Scope):Prop where
 kind:sc.kind=.function
 co:sc.isCoroutine=false
 gen:sc.isGenerator=false
 nd:N.Nodup
 pre:N.take P.length=P
 par:∀x∈P,sc.names.lookup x=some .local ∨ sc.names.lookup x=some .cell
 nofree:∀y∈sc.names,y.2≠.free
theorem me {kindOf:Str->Option NameKind}{x:Str}:∀{binds:List (Str×Value)}{m:Str->Option Value},(∀v,(x,v)∉binds)->bindL kindOf binds m x=m x
 | [],_,_=>rfl
 | (n,v)::r,m,h=>by
  unfold bindL
  rw[me fun w hw=>h w (List.mem_cons_of_mem _ hw)]
  split
  ·have:x≠n:=by rintro rfl;exact h v List.mem_cons_self
   simp[this]
  ·rfl
theorem mh {kindOf:Str->Option NameKind}{x:Str}:∀{binds:List (Str×Value)}{m:Str->Option Value},(∀v,(x,v)∉binds)->bindC kindOf binds m x=m x
 | [],_,_=>rfl
 | (n,v)::r,m,h=>by
  unfold bindC
  rw[mh fun w hw=>h w (List.mem_cons_of_mem _ hw)]
  split
  ·rfl
  ·have:x≠n:=by rintro rfl;exact h v List.mem_cons_self
   simp[this]
theorem mf {kindOf:Str->Option NameKind}{x:Str}{v:Value}:∀{P:List Str}{vs:List Value}{i:Nat}{m:Str->Option Value},P.Nodup->P[i]?=some x->vs[i]?=some v->kindOf x=some .local ->
  bindL kindOf (P.zip vs) m x=some v
 | [],_,_,_,_,h,_,_=>by simp at h
 | _::_,[],_,_,_,_,h,_=>by simp at h
 | p::P,w::vs,0,m,nd,h1,h2,hk=>by
  simp at h1 h2;subst h1;subst h2
  show bindL kindOf ((p,w)::P.zip vs) m p=_
  unfold bindL
  rw[me fun v hv=>(List.nodup_cons.mp nd).1 (List.of_mem_zip hv).1,if_pos hk]
  simp
 | p::P,w::vs,i+1,m,nd,h1,h2,hk=>by
  show bindL kindOf ((p,w)::P.zip vs) m x=_
  unfold bindL
  exact mf (i:=i) (List.nodup_cons.mp nd).2 (by simpa using h1) (by simpa using h2) hk
theorem mi {kindOf:Str->Option NameKind}{x:Str}{v:Value}:∀{P:List Str}{vs:List Value}{i:Nat}{m:Str->Option Value},P.Nodup->P[i]?=some x->vs[i]?=some v->kindOf x≠some .local ->
  bindC kindOf (P.zip vs) m x=some v
 | [],_,_,_,_,h,_,_=>by simp at h
 | _::_,[],_,_,_,_,h,_=>by simp at h
 | p::P,w::vs,0,m,nd,h1,h2,hk=>by
  simp at h1 h2;subst h1;subst h2
  show bindC kindOf ((p,w)::P.zip vs) m p=_
  unfold bindC
  rw[mh fun v hv=>(List.nodup_cons.mp nd).1 (List.of_mem_zip hv).1,if_neg hk]
  simp
 | p::P,w::vs,i+1,m,nd,h1,h2,hk=>by
  show bindC kindOf ((p,w)::P.zip vs) m x=_
  unfold bindC
  exact mi (i:=i) (List.nodup_cons.mp nd).2 (by simpa using h1) (by simpa using h2) hk
def start (N:List Str) (vs:List V):St:=vs.map some++List.replicate (N.length-vs.length) none
def cxOf (CX:CXT) (P:Program) (w:World) (K:W.Frag) (mg:Str->Option Value) (base:Heap) (N:List Str) (qual:Str) (scope:Scope) (f:Addr) (cd:Value) (A:Around) (outer:List Env) (s:Shared) (H:Hp) (E:XK):Cx where
 prog:=P
 w:=w
 K:=K
 mg:=mg
 base:=base
 A:=A.deeper (envOfC qual scope s.heap.objs.size f cd)
 N:=N
 s_0:=s
 H_0:=H
 env:=envOfC qual scope s.heap.objs.size f cd
 outer:=outer
 stack:=envOfC qual scope s.heap.objs.size f cd::outer
 ex:=[]
 calm:=true
 fn:=fun _=>true
 pn:=[]
 xe:=fun e s'=>wpAny (model P w) (A.deeper (envOfC qual scope s.heap.objs.size f cd)) (leaving (envOfC qual scope s.heap.objs.size f cd) e) (fun _ s''=>CX outer H s E e s'') (fun e' s''=>CX outer H s E e' s'') s'
theorem oX {sc:Scope}{n:Nat}{x:Str} (h:sc.names.lookup x=some .cell):∃c,(cellsFrom n sc.names []).lookup x=some c:=by
 have q:=W.cellsFrom_some sc.names n [] (.inl h)
 exact Option.isSome_iff_exists.mp q
theorem lP {CX:CXT}{P:Program}{w:World}{K:W.Frag}{mg:Str->Option Value}{base:Heap}{N ps:List Str}{qual:Str}{scope:Scope}{f:Addr}{cd:Value}{A:Around}{outer:List Env}{s s1:Shared}{H:Hp}{E:XK}{us:List Value}{vs:List V}
  (S:FnScope N ps scope) (hd:A.handled=none) (e0:Env0 P w K mg base A outer s H) (hl:vs.length=ps.length) (r:Vals vs us)
  (x:InCallC s s.heap.objs.size (bindL (envOfC qual scope s.heap.objs.size f cd).kindOf (ps.zip us) fun _=>none) (cellsFrom (s.heap.objs.size+1) scope.names []) (bindC (envOfC qual scope s.heap.objs.size f cd).kindOf (ps.zip us) fun _=>none) s1) :
  Inv (cxOf CX P w K mg base N qual scope f cd A outer s H E) [] (start N vs) H s1:=by
 have hpl:ps.length<=N.length:=by have:=congrArg List.length S.pre;rw[List.length_take] at this;omega
 obtain⟨h1,tk,rfl,hk⟩:=x.done
 have noA:∀b:Addr,b∉(cxOf CX P w K mg base N qual scope f cd A outer s H E).ex:=fun b z=>absurd (show b∈([]:List Addr) from z) (by simp)
 refine⟨⟨e0.mod,S.kind,rfl,rfl,Nat.le_refl _,fun y z c h1 h2=>?_,fun y hy=>?_,fun y c _ h=>?_,fun _=>hd,Around.frames_deeper e0.frames,.inr ⟨rfl,rfl⟩,fun b z=>absurd z (noA b),e0.bs,e0.bsz,fun b _ _=>noA b,fun b z=>absurd z (noA b),e0.funs,e0.frf⟩,
  rfl,e0.bare,Un.kept hk,⟨_,x.toInCall.ns,fun i y v h1 h2 h3=>?_⟩,fun y c h=>⟨_,x.cell y c h⟩,e0.hok.fresh (Nat.le_refl _),fun y c h=>?_,fun p hp=>absurd (show p∈([]:List (Addr×Obj)) from hp) (by simp),e0.hok.kept hk,?_⟩
 ·exact name_of_addr x.apart (PySem.mem_of_lookup h1) (PySem.mem_of_lookup h2)
 ·have hy:scope.names.lookup y=some .cell∨scope.names.lookup y=some .free:=hy
  rcases hy with hy | hy
  ·exact oX hy
  ·exact absurd rfl (S.nofree _ (PySem.mem_of_lookup hy))
 ·exact Nat.le_of_lt (x.above y c (PySem.mem_of_lookup h))
 ·have hi:i<vs.length:=by
   unfold start at h2
   by_cases hi:i<vs.length
   ·exact hi
   ·rw[List.getElem?_append_right (by simpa using hi)] at h2
    rw[List.getElem?_replicate] at h2
    split at h2 <;> cases h2
  have ha:vs[i]?=some v:=by
   unfold start at h2
   rw[List.getElem?_append_left (by simpa using hi),List.getElem?_map] at h2
   cases e:vs[i]? with
   | none=>rw[e] at h2;cases h2
   | some a=>rw[e] at h2;cases h2;rfl
  obtain⟨u,hu,rv⟩:=r.get ha
  have hp:ps[i]?=some y:=by
   rw[← S.pre,List.getElem?_take_of_lt (by omega)];exact h1
  have ndP:ps.Nodup:=by rw[← S.pre];exact S.nd.sublist (List.take_sublist _ _)
  refine⟨u,rv,?_⟩
  rcases S.par y (List.mem_of_getElem? hp) with k | k
  ·exact .inl ⟨k,mf ndP hp hu k⟩
  ·obtain⟨c,e⟩:=oX (n:=s.heap.objs.size+1) k
   refine .inr ⟨.inl k,c,e,?_⟩
   have q:=x.cell y c e
   rw[mi ndP hp hu (by show scope.names.lookup y≠_;rw[k];decide)] at q
   exact q
 ·exact e0.hok.fresh (Nat.le_of_lt (x.above y c (PySem.mem_of_lookup h)))
 ·unfold start
  show _=N.length
  rw[List.length_append,List.length_map,List.length_replicate]
  omega
theorem vI {CX:CXT}{P:Program}{w:World}{K:W.Frag}{mg:Str->Option Value}{base:Heap}{k:Nat}{f:Addr}{name qual:Str}{params:Arguments}{body:List Stmt}{scope:Scope}{dV kV doc pm cdv ct oc:Value}{an od:Option Addr}
  {osl:Array (Option Value)}{N ps:List Str}{sp:Sp} (lk:K.lookup f=some ⟨oc,od,.func (W.fnOf name qual params body scope dV kV doc pm an cdv ct),osl⟩) (hcd:W.codeIn K cdv qual=true) (S:FnScope N ps scope)
  (len:∀vs H Q E,sp vs H Q E->vs.length=ps.length)
  (hbody:∀(A:Around) (outer:List Env) (s:Shared) (H:Hp) (vs:List V) (Q:VK) (E:XK),Room k (A.deeper (envOfC qual scope s.heap.objs.size f cdv))->sp vs H Q E ->
   ∃t,PSs (cxOf CX P w K mg base N qual scope f cdv A outer s H E) body t/\t {nx:=fun _ H'=>Q .non H',rt:=Q} (start N vs) H) :
  FnOk P w K mg base CX (k+1) f (W.fnOf name qual params body scope dV kV doc pm an cdv ct) ps sp:=by
 refine⟨len,fun A outer s H args us vs Q E hr e0 hb r hsp=>?_⟩
 have hl:=len _ _ _ _ hsp
 have KX:K.In s.heap:=e0.mod.kin.keeps fun b o e=>(e0.bs b o e).1
 have lim:s.heap.NoLimit:=e0.mod.nolimit.keeps fun b o e=>(e0.bs b o e).1
 have hkind:∀y∈ps.zip us,scope.names.lookup y.1=some .local ∨ (scope.names.lookup y.1=some .cell/\((cellsFrom (s.heap.objs.size+1) scope.names []).lookup y.1).isSome=true):=fun⟨n,v⟩ hy=>by
  rcases S.par n (List.of_mem_zip hy).1 with q | q
  ·exact .inl q
  ·exact .inr ⟨q,W.cellsFrom_some _ _ _ (.inl q)⟩
 refine codeAny_call_function hr.depth (KX _ _ lk) rfl S.co S.gen rfl (W.codeRec_of KX hcd) (hb _ _ _ _ ?_)
 refine wpAny_newFunctionEnv_cells S.kind hkind fun env he s1 x=>?_
 subst he
 refine⟨lim.keeps x.toInCall.keep,codeAny_func ?_⟩
 obtain⟨t,ht,hq⟩:=hbody A outer s H vs Q E (hr.deeper _) hsp
 have I:Inv (cxOf CX P w K mg base N qual scope f cdv A outer s H E) [] (start N vs) H s1:=lP S hr.hd e0 hl r x
 refine wpAny_mono (ht [] s1 (start N vs) H _ I hq) (fun fl s' hs=>?_) fun e s' hs=>hs
 have fin:∀{σ':St}{H':Hp}{v:V}{u:Value},Inv (cxOf CX P w K mg base N qual scope f cdv A outer s H E) [] σ' H' s'->RelV v u->Q v H'->CE outer P w H s Q u s' :=
  fun {σ' H' v u} J rv q=>⟨v,H',J.os,J.bare,J.base,J.hok,rv,q⟩
 cases fl with
 | ret u =>
  obtain⟨v,σ',H',J,rv,q⟩:=hs
  exact fin J rv q
 | next =>
  obtain⟨σ',H',J,q⟩:=hs
  exact fin (v:=V.non) (u:=Value.none) J rfl q
 | brk =>
  obtain⟨_,_,_,q⟩:=hs
  exact False.elim q
 | cont =>
  obtain⟨_,_,_,q⟩:=hs
  exact False.elim q
section
variable {X:Cx}{x:Str}{p pos:Pos}{e:Expr}{es:List Expr}{t:TA}{id T:String}{r:List V->Hp->VK->Prop}
def tCB (r:List V->Hp->VK->Prop) (t:TA):TE:=fun σ H Q=>t σ H fun vs H1=>r vs H1 Q
theorem aR (hc:eJ X (.builtin id) r) (hg:Gl X x) (hm:X.mg x=none) (hv:bootBuiltins x=some (.builtin id)) (ha:PA X (e::es) t) (hn:x ≠ "__name__":=by decide) (hdb:(x==("__debug__":Str))=false:=by decide)
  (he:starEach (e::es) X.env=(false,eval e X.env)::starEach es X.env:=by rfl) (hpl:(backTo pos (starEach es X.env)).any (·.1)=false:=by rfl):PE X (.Call (.Name x p) (e::es) [] pos) (tCB r t):=by
 intro pins s σ H Q I h
 refine wpAny_Call_Name_kw (d8 I hg hm hv ?_ hn hdb)
 exact PyProof.Rows.callWith_builtin1 (thn (ha pos pins s σ H _ I h) fun us s1 ⟨vs,H1,I1,r1,q1⟩=>hc pins s1 σ H1 vs us Q I1 r1 q1) he hpl
theorem ij (hc:eJ X (.type T) r) (hg:Gl X x) (hm:X.mg x=none) (hv:bootBuiltins x=some (.type T)) (ha:PA X (e::es) t) (hn:x ≠ "__name__":=by decide) (hdb:(x==("__debug__":Str))=false:=by decide)
  (he:starEach (e::es) X.env=(false,eval e X.env)::starEach es X.env:=by rfl) (hpl:(backTo pos (starEach es X.env)).any (·.1)=false:=by rfl):PE X (.Call (.Name x p) (e::es) [] pos) (tCB r t):=by
 intro pins s σ H Q I h
 refine wpAny_Call_Name_kw (d8 I hg hm hv ?_ hn hdb)
 exact PyProof.Rows.callWith_type1 (thn (ha pos pins s σ H _ I h) fun us s1 ⟨vs,H1,I1,r1,q1⟩=>hc pins s1 σ H1 vs us Q I1 r1 q1) he hpl
end
end L2
namespace HT
open PySem PyProof.Rows
section
open PySem.SeqAt
open PySem.AutoSeq1 (wpAny_loadPart')
open PySem.MeetsSeq PySem.MeetsSeq2 PySem.MeetsSeq3
end
section
variable {prog:Program}{w:World}{A:Around}{E:Value->Shared->Prop}{s:Shared}
theorem cat_tup {t b:Addr}{vs ws:List Value}{Q:Value->Shared->Prop} (ht:IsTup s.heap t vs.toArray) (hb:IsTup s.heap b ws.toArray) (hv:vs≠[])
  (h1:ws=[]->Q (.ref t) s) (h2:ws≠[]->Q (.ref s.heap.objs.size) {s with heap:=s.heap.push {cls:=.type "tuple",data:=.seq (vs++ws).toArray}})
  (hsz:vs.length+ws.length<=sizeLine):wpAny (model prog w) A (binaryOp .Add (.ref t) (.ref b)) Q E s:=by
 obtain⟨⟨cls,dd,data,sl⟩,ho,hc,n,hd⟩:=id ht
 obtain⟨⟨cls2,dd2,data2,sl2⟩,ho2,hc2,n2,hd2⟩:=id hb
 simp only at hc hd hc2 hd2
 subst hc hd hc2 hd2
 have e:vs.toArray++ws.toArray=(vs++ws).toArray:=by simp
 by_cases hw:ws=[]
 ·exact concat_meets ⟨_,ho,rfl⟩ ⟨_,ho2,rfl⟩ noFill_tuple_add seq_tuple_add F.slot_tuple_add F.entry_tuple_add (F.args_tuple_add_2 _ _)
   (tuple_addW1 t b vs.toArray ws.toArray n n2 dd dd2 sl sl2 (by simpa using hv) (by simp[hw])) ⟨ho,ho2,h1 hw⟩
 ·refine concat_meets ⟨_,ho,rfl⟩ ⟨_,ho2,rfl⟩ noFill_tuple_add seq_tuple_add F.slot_tuple_add F.entry_tuple_add (F.args_tuple_add_2 _ _)
   (tuple_addW2 t b vs.toArray ws.toArray n n2 dd dd2 sl sl2 (by simpa using hv) (by simpa using hw) (by rw[List.size_toArray,List.size_toArray];exact hsz)) ⟨ho,ho2,?_⟩
  rw[e]
  exact h2 hw
def sIx (n d:Nat):Option Int->Nat
 | none=>d
 | some v=>if v<0 then (v+(n:Int)).toNat else min v.toNat n
theorem sIx_none (n d:Nat):sIx n d none=d:=rfl
theorem sIx_nat (n d k:Nat):sIx n d (some (k:Int))=min k n:=by
 show (if (k:Int)<0 then ((k:Int)+(n:Int)).toNat else min (k:Int).toNat n)=min k n
 rw[if_neg (by omega),Int.toNat_natCast]
theorem sIx_le (n d:Nat) (hd:d<=n) (o:Option Int):sIx n d o<=n:=by
 cases o with
 | none=>exact hd
 | some v =>
  show (if v<0 then (v+(n:Int)).toNat else min v.toNat n)<=n
  by_cases hv:v<0
  ·rw[if_pos hv];omega
  ·rw[if_neg hv];exact Nat.min_le_right _ _
end
end HT
namespace L2
open PySem PySem.Spec PyProof.Rows
abbrev TO:=St->Hp->(Option Int->Hp->Prop)->Prop
def PO (X:Cx) (e:Option Expr) (t:TO):Prop :=
 ∀(pins:List (Addr×Obj)) (s:Shared) (σ:St) (H:Hp) (Q:Option Int->Hp->Prop),Inv X pins σ H s->t σ H Q ->
  wpAny (model X.prog X.w) X.A (evalPart e X.env) (fun u s'=>∃o H',Inv X pins σ H' s'/\IsPart u o/\Q o H') X.xe s
def wk:TO:=fun _ H Q=>Q none H
def yW (t:TE):TO:=fun σ H Q=>t σ H fun x H1=>∃i,x=.int i/\Q (some i) H1
section
variable {X:Cx}{e:Expr}{te:TE}{lo hi:Option Expr}{tl th:TO}{pos p2:Pos}
theorem bQ:PO X none wk:=by
 intro pins s σ H Q I h
 rw[evalPart_none]
 exact wpAny_pure ⟨none,H,I,.none,h⟩
theorem bC (h:PE X e te):PO X (some e) (yW te):=by
 intro pins s σ H Q I hw
 rw[evalPart_some]
 refine thn (h pins s σ H _ I hw) fun u s1 ⟨x,H1,I1,r1,q1⟩=>?_
 obtain⟨i,rfl,q⟩:=q1
 obtain⟨t,rfl⟩:=r1
 exact⟨some i,H1,I1,.int i t,q⟩
def SlR (X:Cx) (r:V->Option Int->Option Int->Hp->VK->Prop):Prop :=
 ∀(pins:List (Addr×Obj)) (s:Shared) (σ:St) (H:Hp) (x:V) (v vl vu:Value) (lo hi:Option Int) (sl:Addr) (Q:VK),Inv X pins σ H s->RelV x v->s.heap.IsSliceOf sl vl vu .none->IsPart vl lo->IsPart vu hi->r x lo hi H Q ->
  ∃T id,typeLookup (.type T) "__getitem__" = pure (some (.builtin id))/\s.TypeIs v T/\wpAny (model X.prog X.w) X.A (getItem v (.ref sl)) (EP X pins σ Q) X.xe s
def tSl (r:V->Option Int->Option Int->Hp->VK->Prop) (te:TE) (tl th:TO):TE:=fun σ H Q=>te σ H fun x H1=>tl σ H1 fun l H2=>th σ H2 fun u H3=>r x l u H3 Q
theorem bp {r:V->Option Int->Option Int->Hp->VK->Prop} (hr:SlR X r) (he:PE X e te) (hl:PO X lo tl) (hu:PO X hi th):PE X (.Subscript e (.Slice lo hi none p2) pos) (tSl r te tl th):=by
 intro pins s σ H Q I h
 refine Subscript_ (thn (he pins s σ H _ I h) fun v s1 ⟨x,H1,I1,r1,q1⟩=>?_)
 refine wpAny_Slice (thn (hl pins s1 σ H1 _ I1 q1) fun vl s2 ⟨l,H2,I2,pl,q2⟩=>thn (hu pins s2 σ H2 _ I2 q2) fun vu s3 ⟨u,H3,I3,pu,q3⟩=>?_)
 rw[evalPart_none]
 refine wpAny_pure ?_
 have I4:Inv X pins σ H3 {s3 with heap:=s3.heap.push {cls:=.type "slice",data:=.fields #[vl,vu,.none]}}:=I3.kept (t':=s3.toks) fun b ob q=>Heap.get?_push_of_some _ q
 obtain⟨T,id,hT,ht,hg⟩:=hr pins {s3 with heap:=s3.heap.push {cls:=.type "slice",data:=.fields #[vl,vu,.none]}} σ H3 x v vl vu l u s3.heap.objs.size Q I4 r1 (Heap.IsSliceOf.new ..) pl pu q3
 show wpAny (model X.prog X.w) X.A (subscriptTail e (.Slice lo hi none p2) v (.ref s3.heap.objs.size)) (EP X pins σ Q) X.xe {s3 with heap:=s3.heap.push {cls:=.type "slice",data:=.fields #[vl,vu,.none]}}
 exact tail_any (ops:=[.ref s3.heap.objs.size,v]) ht hT hg (by with_unfolding_all rfl)
def zdl (xs:List V) (lo hi:Option Int):List V:=(xs.drop (HT.sIx xs.length 0 lo)).take (HT.sIx xs.length xs.length hi-HT.sIx xs.length 0 lo)
theorem oS (xs:List V) (lo hi:Option Int):(zdl xs lo hi).length<=xs.length:=by
 unfold zdl
 rw[List.length_take,List.length_drop]
 omega
def zf (K:W.Frag):R2:=fun x y H Q=>∃a b xs ys,x=.ref a/\y=.ref b/\SqT K H a xs/\SqT K H b ys/\xs≠[]/\xs.length+ys.length<=sizeLine /\
 (ys=[]->Q (.ref a) H)/\(ys≠[]->∀p,H p=none->Q (.ref p) (upd H p (.tup (xs++ys))))
theorem Vals.nil_iff {xs:List V}{us:List Value} (r:Vals xs us):us=[]↔xs=[]:=by
 cases r with
 | nil=>simp
 | cons _ _=>simp
theorem wE:OpR X (binaryOp .Add) (zf X.K):=by
 intro pins s σ H x y v u Q I rx ry h
 obtain⟨a,b,xs,ys,rfl,rfl,ha,hb,hx,hz,q1,q2⟩:=h
 cases rx
 cases ry
 obtain⟨its,r1,p1,_⟩:=I.tuple ha
 obtain⟨its2,r2,p2,_⟩:=I.tuple hb
 refine HT.cat_tup p1 p2 (fun z=>hx (r1.nil_iff.mp z)) (fun z=>⟨.ref a,H,I,rfl,q1 (r2.nil_iff.mp z)⟩) (fun z=>?_) (by rw[← r1.length,← r2.length];exact hz)
 refine⟨.ref s.heap.objs.size,_,I.laid (t':=s.toks) (o:=.tup (xs++ys)) (fun b ob q=>Heap.get?_push_of_some _ q) (Nat.le_refl _) ?_,rfl,q2 (fun w=>z (r2.nil_iff.mpr w)) _ (I.hok.fresh (Nat.le_refl _))⟩
 exact⟨by rw[List.length_append];exact hz,_,r1.append r2,IsTupD.new _ _⟩
end
def ixN (n:Nat) (i:Int):Option Nat:=if 0<=i then (if i<n then some i.toNat else none) else if -(n:Int)<=i then some (i+n).toNat else none
def atI {α:Type} (xs:List α) (i:Int):Option α:=(ixN xs.length i).bind fun j=>xs[j]?
theorem xh {n:Nat}{i:Int}{j:Nat} (h:ixN n i=some j):seqIndex? i n=some j/\j<n/\-(n:Int)<=i/\i<n:=by
 unfold ixN at h
 by_cases h0:0<=i
 ·rw[if_pos h0] at h
  by_cases h1:i<n
  ·rw[if_pos h1] at h
   have e:i.toNat=j:=Option.some.inj h
   exact⟨by rw[seqIndex_of h0 h1,e],by omega,by omega,h1⟩
  ·rw[if_neg h1] at h;cases h
 ·rw[if_neg h0] at h
  by_cases h1:-(n:Int)<=i
  ·rw[if_pos h1] at h
   have e:(i+n).toNat=j:=Option.some.inj h
   exact⟨by rw[seqIndex_neg (by omega) h1,e],by omega,h1,by omega⟩
  ·rw[if_neg h1] at h;cases h
theorem m4 {α:Type}{xs:List α}{i:Int}{v:α} (h:atI xs i=some v):∃j,seqIndex? i xs.length=some j/\xs[j]?=some v/\j<xs.length/\-(xs.length:Int)<=i/\i<xs.length:=by
 unfold atI at h
 cases e:ixN xs.length i with
 | none=>rw[e] at h;cases h
 | some j =>
  rw[e] at h
  obtain⟨h1,h2,h3,h4⟩:=xh e
  exact⟨j,h1,h,h2,h3,h4⟩
theorem az {α:Type}{xs:List α}{j:Nat}{v:α} (h:xs[j]?=some v):atI xs (j:Int)=some v:=by
 have hj:j<xs.length:=(List.getElem?_eq_some_iff.mp h).1
 have e:ixN xs.length (j:Int)=some j:=by
  unfold ixN
  rw[if_pos (by omega),if_pos (by omega)];simp
 unfold atI;rw[e];exact h
theorem o6 {α:Type} (xs:List α) (v:α):atI (xs++[v]) (-1)=some v:=by
 have hl:(xs++[v]).length=xs.length+1:=by simp
 have e:ixN (xs++[v]).length (-1)=some xs.length:=by
  unfold ixN
  rw[hl,if_neg (by decide),if_pos (by omega)]
  congr 1
  omega
 unfold atI
 rw[e]
 show (xs++[v])[xs.length]?=some v
 simp
def xB (b:Expr):Prop:=∀o i,subscripted b false o i=operate [o,i] (getItem o i)
def IxR (X:Cx) (r:R2):Prop :=
 ∀(value slice:Expr) (pins:List (Addr×Obj)) (s:Shared) (σ:St) (H:Hp) (x y:V) (v u:Value) (Q:VK),Inv X pins σ H s->RelV x v->RelV y u->r x y H Q ->
  subscripted slice false v u=operate [v,u] (getItem v u)->wpAny (model X.prog X.w) X.A (subscriptTail value slice v u) (EP X pins σ Q) X.xe s
def MtR (X:Cx) (id:String) (r:V->List V->Hp->VK->Prop):Prop :=
 ∀(pins:List (Addr×Obj)) (s:Shared) (σ:St) (H:Hp) (x:V) (xs:List V) (v:Value) (us:List Value) (Q:VK),Inv X pins σ H s->RelV x v->Vals xs us->r x xs H Q ->
  wpAny (model X.prog X.w) X.A (call (.builtin id) (v::us)) (EP X pins σ Q) X.xe s
section
variable {X:Cx}{a b:Expr}{ta tb:TE}{pos:Pos}
theorem aJ {r:R2} (hr:IxR X r) (ha:PE X a ta) (hb:PE X b tb) (hs:xB b):PE X (.Subscript a b pos) (tOp r ta tb):=by
 intro pins s σ H Q I h
 exact Subscript_ (yS ha hb I h fun v u s2 x y H2 I2 rx ry q=>hr a b pins s2 σ H2 x y v u Q I2 rx ry q (hs _ _))
def z9 (K:W.Frag):R2:=fun x y H Q=>∃p xs i v,x=.ref p/\y=.int i/\SqL K H p xs/\atI xs i=some v/\Q v H
def sf (K:W.Frag):R2:=fun x y H Q=>∃p xs i v,x=.ref p/\y=.int i/\SqT K H p xs/\atI xs i=some v/\Q v H
def z8:R2:=fun x y H Q=>∃z i c,x=.str z/\y=.int i/\z.length<=sizeLine/\atI z.cps.toList i=some c/\Q (.str ⟨#[c]⟩) H
theorem aY:IxR X (z9 X.K):=by
 intro value slice pins s σ H x y v u Q I rx ry h hs
 obtain⟨p,xs,i,z,rfl,rfl,hq,he,q⟩:=h
 cases rx
 obtain⟨t,rfl⟩:=ry
 obtain⟨its,r,pl,hz⟩:=I.list hq
 obtain⟨j,h1,h2,h3,h4,h5⟩:=m4 he
 obtain⟨w,ew,rw'⟩:=r.get h2
 have hl:=r.length
 have hn:=line63
 have fin:EP X pins σ Q w s:=⟨z,H,I,rw',q⟩
 by_cases h0:0<=i
 ·have hj:i.toNat=j:=by
   rw[seqIndex_of h0 h5] at h1
   exact Option.some.inj h1
  exact item_listR pl.isList h0 (by omega) (by rw[hj];simpa using ew) fin hs
 ·have hj:(i+(its.toArray.size:Int)).toNat=j:=by
   rw[seqIndex_neg (by omega) h4] at h1
   rw[List.size_toArray,← hl]
   exact Option.some.inj h1
  exact subscriptTail_builtinR (x:=w) pl.isList.typeIs slot_list_getitem.lookup
   (wpAny_getItem_list_neg (Q:=fun r s'=>r=w/\EP X pins σ Q r s') pl.isList (by omega) (by rw[List.size_toArray] <;> omega) (by omega) (by rw[hj];simpa using ew) ⟨rfl,fin⟩) hs
theorem aX:IxR X (sf X.K):=by
 intro value slice pins s σ H x y v u Q I rx ry h hs
 obtain⟨p,xs,i,z,rfl,rfl,hq,he,q⟩:=h
 cases rx
 obtain⟨t,rfl⟩:=ry
 obtain⟨its,r,pl,hz⟩:=I.tuple hq
 obtain⟨j,h1,h2,h3,h4,h5⟩:=m4 he
 obtain⟨w,ew,rw'⟩:=r.get h2
 have hl:=r.length
 have hn:=line63
 have fin:EP X pins σ Q w s:=⟨z,H,I,rw',q⟩
 exact subscriptTail_builtinR (x:=w) pl.typeIs slot_tuple_getitem.lookup
  (getItem_tuple (j:=j) (Q:=fun r s'=>r=w/\EP X pins σ Q r s') pl (by omega) (by omega) (by rw[List.size_toArray,← hl];exact h1) (by simpa using ew) ⟨rfl,fin⟩) hs
theorem mQ:IxR X z8:=by
 intro value slice pins s σ H x y v u Q I rx ry h hs
 obtain⟨z,i,c,rfl,rfl,hz,he,q⟩:=h
 obtain⟨t,rfl⟩:=rx
 obtain⟨t',rfl⟩:=ry
 obtain⟨j,h1,h2,h3,h4,h5⟩:=m4 he
 have hl:z.cps.toList.length=z.length:=by simp[Str.length]
 rw[hl] at h1 h4 h5
 have hn:=line63
 exact tail_any (typeIs_str s z t) slot_str_getitem.lookup (getItem_str (c:=c) (by
  have e1:decide (i < -(2 ^ 63:Int))=false:=decide_eq_false (by omega)
  have e2:decide (i ≥ 2 ^ 63)=false:=decide_eq_false (by omega)
  rw[e1,e2,Bool.or_false]) (by rw[h1];simpa using h2) ⟨.str ⟨#[c]⟩,H,I.tok _,⟨_,rfl⟩,q⟩) hs
theorem mB (lo hi:Option Int) (n:Nat):(sliceBounds lo hi none n).1=((HT.sIx n 0 lo:Nat):Int)/\(sliceBounds lo hi none n).2.1=((HT.sIx n n hi:Nat):Int)/\(sliceBounds lo hi none n).2.2=1:=by
 refine⟨?_,?_,rfl⟩
 ·cases lo with
  | none=>simp[sliceBounds,HT.sIx]
  | some i =>
   simp only[sliceBounds,HT.sIx,Option.getD_none,show (1:Int) > 0 by decide,if_true]
   by_cases h:i<0
   ·simp only[h,if_true] <;> omega
   ·simp only[h,if_false] <;> omega
 ·cases hi with
  | none=>simp[sliceBounds,HT.sIx]
  | some i =>
   simp only[sliceBounds,HT.sIx,Option.getD_none,show (1:Int) > 0 by decide,if_true]
   by_cases h:i<0
   ·simp only[h,if_true] <;> omega
   ·simp only[h,if_false] <;> omega
theorem kS (its:List Value) (lo hi:Option Int):slicePick its.toArray lo hi none=((its.drop (HT.sIx its.length 0 lo)).take (HT.sIx its.length its.length hi-HT.sIx its.length 0 lo)).toArray:=by
 obtain⟨h1,h2,h3⟩:=mB lo hi its.toArray.size
 unfold slicePick
 rw[h1,h2,h3]
 simp only[sliceRange_one,pick_run,List.size_toArray] <;> rfl
def z7 (K:W.Frag):V->Option Int->Option Int->Hp->VK->Prop:=fun x lo hi H Q=>∃a xs,x=.ref a/\SqL K H a xs/\∀p,H p=none->Q (.ref p) (upd H p (.lst (zdl xs lo hi)))
theorem gn:SlR X (z7 X.K):=by
 intro pins s σ H x v vl vu lo hi sl Q I rx hs pl pu h
 obtain⟨a,xs,rfl,hx,q⟩:=h
 cases rx
 obtain⟨its,r,ht,hz⟩:=I.list hx
 have hlen:=r.length
 refine⟨"list",_,slot_list_getitem.lookup,ht.isList.typeIs,?_⟩
 refine wpAny_getItem_list_slice ht.isList hs pl pu .none (by simp) ?_ (by rw[List.size_toArray] <;> omega)
 rw[kS,← hlen]
 refine⟨.ref s.heap.objs.size,_,I.laid (t':=s.toks) (o:=.lst (zdl xs lo hi)) (fun b ob q=>Heap.get?_push_of_some _ q) (Nat.le_refl _) ?_,rfl,q _ (I.hok.fresh (Nat.le_refl _))⟩
 exact⟨Nat.le_trans (oS xs lo hi) hz,_,0,(r.drop (HT.sIx xs.length 0 lo)).take (HT.sIx xs.length xs.length hi-HT.sIx xs.length 0 lo),Heap.get?_push_size _ rfl⟩
def flatV:V->Bool
 | .non=>true
 | .bl _=>true
 | .int _=>true
 | .str _=>true
 | _=>false
def eqV:V->V->Bool
 | .non,.non=>true
 | .bl a,.bl b=>a==b
 | .bl a,.int b=>(if a then 1 else 0)==b
 | .int a,.bl b=>a==(if b then 1 else 0)
 | .int a,.int b=>a==b
 | .str a,.str b=>a==b
 | _,_=>false
theorem yN {A:Around}{s:Shared}{y x:V}{u v:Value} (ry:RelV y u) (rx:RelV x v) (fy:flatV y=true) (fx:flatV x=true):SeqAt.EqAt A s u v (eqV y x):=by
 cases y with
 | non =>
  cases ry
  cases x with
  | non=>cases rx;exact SeqAt.EqAt.same _
  | bl b=>cases rx;exact SeqAt.EqAt.none_bool b
  | int b=>obtain⟨t,rfl⟩:=rx;exact SeqAt.EqAt.none_int b t
  | str b=>obtain⟨t,rfl⟩:=rx;exact SeqAt.EqAt.none_str b t
  | _=>exact absurd (show false=true from fx) Bool.false_ne_true
 | bl a =>
  cases ry
  cases x with
  | non=>cases rx;exact SeqAt.EqAt.bool_none a
  | bl b=>cases rx;exact SeqAt.EqAt.bool_bool a b
  | int b=>obtain⟨t,rfl⟩:=rx;exact SeqAt.EqAt.bool_int a b t
  | str b=>obtain⟨t,rfl⟩:=rx;exact SeqAt.EqAt.bool_str a b t
  | _=>exact absurd (show false=true from fx) Bool.false_ne_true
 | int a =>
  obtain⟨t',rfl⟩:=ry
  cases x with
  | non=>cases rx;exact SeqAt.EqAt.int_none a t'
  | bl b=>cases rx;exact SeqAt.EqAt.int_bool a t' b
  | int b=>obtain⟨t,rfl⟩:=rx;exact SeqAt.EqAt.int_int a t' b t
  | str b=>obtain⟨t,rfl⟩:=rx;exact SeqAt.EqAt.int_str a t' b t
  | _=>exact absurd (show false=true from fx) Bool.false_ne_true
 | str a =>
  obtain⟨t',rfl⟩:=ry
  cases x with
  | non=>cases rx;exact SeqAt.EqAt.str_none a t'
  | bl b=>cases rx;exact SeqAt.EqAt.str_bool a t' b
  | int b=>obtain⟨t,rfl⟩:=rx;exact SeqAt.EqAt.str_int a t' b t
  | str b=>obtain⟨t,rfl⟩:=rx;exact SeqAt.EqAt.str_str a t' b t
  | _=>exact absurd (show false=true from fx) Bool.false_ne_true
 | _=>exact absurd (show false=true from fy) Bool.false_ne_true
def eqU (x:V) (u:Value):Bool:=match u with
 | .none=>eqV .non x
 | .bool b=>eqV (.bl b) x
 | .int i _=>eqV (.int i) x
 | .str z _=>eqV (.str z) x
 | _=>false
theorem km {x y:V}{u:Value} (r:RelV y u) (f:flatV y=true):eqU x u=eqV y x:=by
 cases y with
 | non=>cases r;rfl
 | bl b=>cases r;rfl
 | int i=>obtain⟨t,rfl⟩:=r;rfl
 | str z=>obtain⟨t,rfl⟩:=r;rfl
 | _=>exact absurd (show false=true from f) Bool.false_ne_true
theorem hZ {x:V}:∀{xs:List V}{us:List Value},Vals xs us->xs.all flatV=true->us.any (eqU x)=xs.any fun y=>eqV y x
 | _,_,.nil,_=>rfl
 | y::xs,u::us,.cons r t,f=>by
  rw[List.all_cons,Bool.and_eq_true] at f
  rw[List.any_cons,List.any_cons,km r f.1,hZ t f.2]
theorem cF {A:Around}{s:Shared}{x:V}{v:Value} (rx:RelV x v) (fx:flatV x=true):∀{xs:List V}{us:List Value},Vals xs us->xs.all flatV=true->∀u∈us,SeqAt.EqAt A s u v (eqU x u)
 | _,_,.nil,_=>fun u hu=>by cases hu
 | y::xs,u::us,.cons r t,f=>fun u' hu=>by
  rw[List.all_cons,Bool.and_eq_true] at f
  rcases List.mem_cons.mp hu with rfl | hu
  ·rw[km r f.1];exact yN r rx f.1 fx
  ·exact cF rx fx t f.2 u' hu
def inV (x:V) (xs:List V):Bool:=xs.any fun y=>eqV y x
def rIn (K:W.Frag) (neg:Bool):R2:=fun x y H Q=>∃p xs,y=.ref p/\(SqL K H p xs∨SqT K H p xs)/\flatV x=true/\xs.all flatV=true/\Q (.bl (if neg then !inV x xs else inV x xs)) H
theorem df:OpR X (compareOp .In) (rIn X.K false):=by
 intro pins s σ H x y v u Q I rx ry h
 obtain⟨p,xs,rfl,hq,fx,fs,q⟩:=h
 cases ry
 rcases hq with hq | hq
 ·obtain⟨its,r,pl,hz⟩:=I.list hq
  refine SeqAt.in_listAt (eqU x) pl.isList (fun w hw=>cF rx fx r fs w (by simpa using hw)) ⟨.bl _,H,I,rfl,?_⟩
  rw[show its.toArray.any (eqU x)=its.any (eqU x) by simp,hZ r fs]
  exact q
 ·obtain⟨its,r,pl,hz⟩:=I.tuple hq
  refine SeqAt.in_tupleAt (eqU x) pl (fun w hw=>cF rx fx r fs w (by simpa using hw)) ⟨.bl _,H,I,rfl,?_⟩
  rw[show its.toArray.any (eqU x)=its.any (eqU x) by simp,hZ r fs]
  exact q
theorem bS:OpR X (compareOp .NotIn) (rIn X.K true):=by
 intro pins s σ H x y v u Q I rx ry h
 obtain⟨p,xs,rfl,hq,fx,fs,q⟩:=h
 cases ry
 rcases hq with hq | hq
 ·obtain⟨its,r,pl,hz⟩:=I.list hq
  refine SeqAt.notIn_listAt (eqU x) pl.isList (fun w hw=>cF rx fx r fs w (by simpa using hw)) ⟨.bl _,H,I,rfl,?_⟩
  rw[show its.toArray.any (eqU x)=its.any (eqU x) by simp,hZ r fs]
  exact q
 ·obtain⟨its,r,pl,hz⟩:=I.tuple hq
  refine SeqAt.notIn_tupleAt (eqU x) pl (fun w hw=>cF rx fx r fs w (by simpa using hw)) ⟨.bl _,H,I,rfl,?_⟩
  rw[show its.toArray.any (eqU x)=its.any (eqU x) by simp,hZ r fs]
  exact q
theorem aZ:eJ X (.builtin "len") (fun xs H Q=>∃p ys,xs=[.ref p]/\(SqL X.K H p ys∨SqT X.K H p ys)/\Q (.int ys.length) H):=by
 intro pins s σ H xs us Q I r h
 obtain⟨p,ys,rfl,hq,q⟩:=h
 obtain⟨u,rfl,rx⟩:=vals1 r
 cases rx
 have hn:=line63
 rcases hq with hq | hq
 ·obtain⟨its,r',pl,hz⟩:=I.list hq
  have hlen:=r'.length
  exact Calls.call_len_list pl.isList (by simp only[List.size_toArray] <;> omega) ⟨.int ys.length,H,I.tok _,⟨s.toks+1,by rw[List.size_toArray,hlen]⟩,q⟩
 ·obtain⟨its,r',pl,hz⟩:=I.tuple hq
  have hlen:=r'.length
  exact len_tuple pl (by simp only[List.size_toArray] <;> omega) ⟨.int ys.length,H,I.tok _,⟨s.toks+1,by rw[List.size_toArray,hlen]⟩,q⟩
theorem cv:eJ X (.builtin "len") (fun xs H Q=>∃z,xs=[.str z]/\z.length<=sizeLine/\Q (.int z.length) H):=by
 intro pins s σ H xs us Q I r h
 obtain⟨z,rfl,hz,q⟩:=h
 obtain⟨u,rfl,t,rfl⟩:=vals1 r
 have hn:=line63
 exact len_str (by omega) ⟨.int z.length,H,I.tok _,⟨_,rfl⟩,q⟩
theorem lf:eJ X (.type "tuple") (fun xs H Q=>∃p ys,xs=[.ref p]/\((SqL X.K H p ys/\∀l,H l=none->Q (.ref l) (upd H l (.tup ys)))∨(SqT X.K H p ys/\Q (.ref p) H))):=by
 intro pins s σ H xs us Q I r h
 obtain⟨p,ys,rfl,h⟩:=h
 obtain⟨u,rfl,rx⟩:=vals1 r
 cases rx
 rcases h with ⟨hq,q⟩ | ⟨hq,q⟩
 ·obtain⟨its,r',pl,hz⟩:=I.list hq
  have hlen:=r'.length
  refine call_tuple_list pl.isList (fun h' kp=>?_) (by simp only[List.size_toArray] <;> omega)
  have I1:Inv X pins σ H {s with heap:=h'}:=I.kept (t':=s.toks) kp
  have I2:Inv X pins σ (upd H h'.objs.size (.tup ys)) {s with heap:=h'.push {cls:=.type "tuple",data:=.seq its.toArray}} :=
   I1.laid (t':=s.toks) (fun b o e=>Heap.get?_push_of_some _ e) (Nat.le_refl _) (show ObjOk X.prog X.w _ _ _ (.tup ys) from ⟨hz,its,r',IsTupD.new _ _⟩)
  exact⟨.ref h'.objs.size,_,I2,rfl,q _ (I1.hok.fresh (Nat.le_refl _))⟩
 ·obtain⟨its,r',pl,hz⟩:=I.tuple hq
  exact call_tuple_same pl ⟨.ref p,H,I,rfl,q⟩
def tyV (K:W.Frag) (T:String) (x:V) (H:Hp):Prop:=match x with
 | .str _=>T = "str"
 | .int _=>T = "int"
 | .ref p=>(T = "list"/\∃xs,SqL K H p xs)∨(T = "tuple"/\∃o,K.lookup p=some o/\o.cls=.type "tuple"/\o.dict=none) ∨
   (T = "dict"/\((∃kvs,H p=some (.dK kvs))∨∃kvs,H p=some (.dT kvs)))∨(T = "set"/\∃S n,H p=some (.set S n))
 | _=>False
theorem xQ {pins:List (Addr×Obj)}{σ:St}{H:Hp}{s:Shared}{T:String}{x:V}{v:Value} (I:Inv X pins σ H s) (r:RelV x v) (ty:tyV X.K T x H) :
  s.TypeIs v T/\∀a,v=.ref a->∃ob,s.heap.get? a=some ob/\ob.dict=none:=by
 cases x with
 | str z =>
  obtain⟨t,rfl⟩:=r
  cases (show T = "str" from ty)
  exact⟨typeIs_str s z t,fun _ e=>nomatch e⟩
 | int i =>
  obtain⟨t,rfl⟩:=r
  cases (show T = "int" from ty)
  exact⟨typeIs_int s i t,fun _ e=>nomatch e⟩
 | ref p =>
  cases r
  rcases ty with ⟨rfl,xs,hq⟩ | ⟨rfl,o,hk,hc,hd⟩ | ⟨rfl,hk⟩ | ⟨rfl,S,n,hk⟩
  ·obtain⟨its,_,pl,_⟩:=I.list hq
   refine⟨pl.isList.typeIs,fun a e=>?_⟩
   cases e
   obtain⟨o,n,e,c,hd,_⟩:=pl
   exact⟨o,e,hd⟩
  ·refine⟨⟨o,I.kIn p o hk,hc⟩,fun a e=>?_⟩
   cases e
   exact⟨o,I.kIn _ o hk,hd⟩
  ·have z:∃o,s.heap.get? p=some o/\o.ExactDict:=by
    rcases hk with ⟨kvs,hk⟩ | ⟨kvs,hk⟩
    ·obtain⟨_,_,_,_,o,_,_,e,ex,_⟩:=I.hok p _ hk
     exact⟨o,e,ex⟩
    ·obtain⟨_,_,_,_,o,_,_,e,ex,_⟩:=I.hok p _ hk
     exact⟨o,e,ex⟩
   obtain⟨o,e,ex⟩:=z
   refine⟨⟨o,e,ex.1⟩,fun a e2=>?_⟩
   cases e2
   exact⟨o,e,ex.2.1⟩
  ·obtain⟨o,_,_,_,e,ex,_⟩:=I.hok p _ hk
   refine⟨⟨o,e,ex.1⟩,fun a e2=>?_⟩
   cases e2
   exact⟨o,e,ex.2.1⟩
 | _=>exact False.elim ty
def tBM (K:W.Frag) (T:String) (r:V->List V->Hp->VK->Prop) (to:TE) (t:TA):TE:=fun σ H Q=>to σ H fun x H1=>tyV K T x H1/\t σ H1 fun xs H2=>r x xs H2 Q
variable {o e:Expr}{es:List Expr}{to:TE}{t:TA}{name:Str}{apos cpos:Pos}{T id:String}{r:V->List V->Hp->VK->Prop}
theorem cS (pa:PlainAttrs T) (slot:Slot T name id) (hty:typeOf (.builtin id)=pure (.type "method_descriptor")) (hm:MtR X id r) (ho:PE X o to) (ha:PA X (e::es) t)
  (hbase:attributeBase o name X.env (eval o X.env)=eval o X.env:=by rfl)
  (hfew:((backTo cpos (starEach (e::es) X.env)).all (fun x=>!x.1)&&(backToKw cpos (keywordEach [] X.env)).all (fun x=>x.1.isSome)
   && decide ((e::es).length+([]:List Keyword).length+(if ([]:List Keyword).isEmpty then 0 else 1)<30))=true:=by rfl)
  (hline:(apos.endLine==cpos.line)=true:=by rfl) (hs:starEach (e::es) X.env=(false,eval e X.env)::starEach es X.env:=by rfl) (hplain:(backTo cpos (starEach es X.env)).any (·.1)=false:=by rfl) :
  PE X (.Call (.Attribute o name apos) (e::es) [] cpos) (tBM X.K T r to t):=by
 intro pins s σ H Q I h
 refine wpAny_Call_method_late hbase hfew hline rfl (thn (ho pins s σ H _ I h) fun v s1 ⟨x,H1,I1,r1,ty,q1⟩=>?_)
 obtain⟨h1,h2⟩:=xQ I1 r1 ty
 refine⟨T,id,pa,slot,hty,h1,h2,?_⟩
 have hA:=ha cpos pins s1 σ H1 _ I1 q1
 rw[hs] at hA ⊢
 refine Calls.callWith_builtin (by show (false || (backTo cpos (starEach es X.env)).any (·.1))=false;rw[hplain] <;> rfl) (Calls.evalArgs_plain ?_)
 exact thn hA fun us s2 ⟨vs,H2,I2,r2,q2⟩=>hm pins s2 σ H2 x vs v us Q I2 r1 r2 q2
end
def MtM (X:Cx) (id:String) (r:V->List V->Hp->VK->Prop):Prop :=
 ∀(pins:List (Addr×Obj)) (s:Shared) (σ:St) (H:Hp) (x:V) (xs:List V) (v:Value) (us:List Value) (Q:VK),Inv X pins σ H s->RelV x v->Vals xs us->r x xs H Q ->
  wpAny (model X.prog X.w) X.A (call (.builtin id) (v::us)) (EP X pins σ Q) X.xe s
theorem Vals.one:∀{x:V}{us:List Value},Vals [x] us->∃u,us=[u]/\RelV x u
 | _,_,.cons r .nil=>⟨_,rfl,r⟩
section
variable {X:Cx}{pins:List (Addr×Obj)}{σ:St}{H:Hp}{s:Shared}{l b:Addr}{xs ys zs:List V}
theorem Inv.lset {its its':List Value}{n:Nat}{f:Array Value->Array Value}{t':Nat} (I:Inv X pins σ H s) (hH:H l=some (.lst xs))
  (e:s.heap.get? l=some {cls:=.type "list",data:=.seq its.toArray n}) (hf:f its.toArray=its'.toArray) (hv:Vals ys its') (hz:ys.length<=sizeLine) :
  Inv X pins σ (upd H l (.lst ys)) {s with heap:=s.heap.update l (Obj.mapSeq f),toks:=t'}:=by
 have q:=PySem.IsL.update e f
 rw[hf] at q
 refine I.write (x:=l) (e:=l) (by rw[hH];exact trivial) (.inl rfl) (fun b' u hb hu=>(Heap.get?_update_other s.heap (Obj.mapSeq f) (Ne.symm hb)).trans hu) ⟨_,q⟩ ?_
 exact⟨hz,its',_,hv,q⟩
theorem Inv.lnew {its:List Value}{t':Nat} (I:Inv X pins σ H s) (hv:Vals ys its) (hz:ys.length<=sizeLine) :
  Inv X pins σ (upd H s.heap.objs.size (.lst ys)) {s with heap:=s.heap.push {cls:=.type "list",data:=.seq its.toArray},toks:=t'} :=
 I.laid (fun _ _ q=>Heap.get?_push_of_some _ q) (Nat.le_refl _) ⟨hz,its,0,hv,Heap.get?_push_size _ rfl⟩
theorem Inv.fresh (I:Inv X pins σ H s):H s.heap.objs.size=none:=I.hok.fresh (Nat.le_refl _)
theorem Inv.lstM (I:Inv X pins σ H s) (hH:H l=some (.lst xs)):xs.length<=sizeLine/\∃(its:List Value) (n:Nat),Vals xs its/\xs.length=its.length/\s.heap.get? l=some {cls:=.type "list",data:=.seq its.toArray n}:=by
 obtain⟨z,its,n,r,e⟩:=I.hok l _ hH
 exact⟨z,its,n,r,r.length,e⟩
end
section
variable {X:Cx}
def ww:V->List V->Hp->VK->Prop:=fun x vs H Q=>∃l xs y,x=.ref l/\vs=[y]/\H l=some (.lst xs)/\xs.length<sizeLine/\Q .non (upd H l (.lst (xs++[y])))
theorem bE:MtM X "list.append" ww:=by
 intro pins s σ H x vs v us Q I rx rv h
 obtain⟨l,xs,y,rfl,rfl,hH,hz,q⟩:=h
 cases rx
 obtain⟨u,rfl,ru⟩:=rv.one
 obtain⟨z,its,n,r,hl,e⟩:=I.lstM hH
 refine call_meets F.slot_list_append ⟨_,e,rfl⟩ F.entry_list_append (F.args_list_append_2 _ _) (PySem.list_append l its.toArray n u (by rw[List.size_toArray];omega)) ⟨e,?_⟩
 refine⟨.non,_,I.lset (its':=its++[u]) hH e (by simp) (r.append (.cons ru .nil)) ?_,rfl,q⟩
 rw[List.length_append,List.length_singleton]
 omega
def zi:R2:=fun x y H Q=>∃l b xs zs,x=.ref l/\y=.ref b/\H l=some (.lst xs)/\H b=some (.lst zs)/\xs.length+zs.length<=sizeLine/\∀p,H p=none->Q (.ref p) (upd H p (.lst (xs++zs)))
theorem uV:OpR X (binaryOp .Add) zi:=by
 intro pins s σ H x y v u Q I rx ry h
 obtain⟨l,b,xs,zs,rfl,rfl,hH,hB,hz,q⟩:=h
 cases rx
 cases ry
 obtain⟨z,its,n,r,hl,e⟩:=I.lstM hH
 obtain⟨z2,its2,n2,r2,hl2,e2⟩:=I.lstM hB
 refine PySem.P.add_list e e2 ?_ (by rw[List.size_toArray,List.size_toArray];omega)
 have ea:its.toArray++its2.toArray=(its++its2).toArray:=by simp
 rw[ea]
 exact⟨.ref _,_,I.lnew (t':=s.toks) (r.append r2) (by rw[List.length_append];omega),rfl,q _ I.fresh⟩
end
section
variable {prog:Program}{w:World}{A:Around}{E:Value->Shared->Prop}{s:Shared}
set_option maxRecDepth 100000 in
end
section
variable {X:Cx}
end
theorem Vals.ints:∀{ns:List Int}{us:List Value},Vals (ns.map V.int) us->IntsAre us ns
 | [],us,h=>by
  rw[List.map_nil] at h
  cases h
  exact IntsAre.nil
 | n::ns,us,h=>by
  rw[List.map_cons] at h
  cases h with
  | cons r t =>
   obtain⟨k,rfl⟩:=r
   exact IntsAre.cons n k (Vals.ints t)
theorem gh:∀{us:List Value}{ns:List Int},IntsAre us ns->Vals (ns.map V.int) us
 | _,_,.nil=>by rw[List.map_nil];exact Paired.nil
 | _,_,.cons n t h=>by rw[List.map_cons];exact Paired.cons (show RelV (V.int n) (Value.int n t) from ⟨t,rfl⟩) (gh h)
theorem Vals.bls:∀{bs:List Bool}{us:List Value},Vals (bs.map V.bl) us->us=bs.map Value.bool
 | [],us,h=>by
  rw[List.map_nil] at h
  cases h
  rfl
 | b::bs,us,h=>by
  rw[List.map_cons] at h
  cases h with
  | cons r t =>
   cases r
   rw[Vals.bls t,List.map_cons]
theorem Vals.ref1 {a:Addr}{us:List Value} (r:Vals [V.ref a] us):us=[Value.ref a]:=by
 cases r with
 | cons r t =>
  cases t
  cases r
  rfl
section
variable {prog:Program}{w:World}{A:Around}{E:Value->Shared->Prop}{s:Shared}{l:Addr}{its:List Value}{ns:List Int}{Q:Value->Shared->Prop}
end
section
variable {X:Cx}
theorem small64 {n:Nat} (h:n<64):n<=sizeLine:=by rw[sizeLine_eq];omega
end
section
variable {X:Cx}
theorem rk {ys:List V} (f:ys.all flatV=true) {j:Nat}{z:V} (h:ys[j]?=some z):flatV z=true:=List.all_eq_true.mp f z (List.mem_of_getElem? h)
end
section
variable {X:Cx}
end
theorem oq {prog:Program}{w:World}{A:Around}{E:Value->Shared->Prop}{s:Shared}{l:Addr}{items:Array Value}{Q:Value->Shared->Prop} (hl:s.heap.IsList l items)
  (h:∀s₂:Shared,s₂={s with heap:=s.heap.push {cls:=.type "list_iterator",data:=.fields #[.ref l,.int 0 0]}} ->
   (s₂.heap.IsListIter s.heap.objs.size l 0/\s₂.heap.IsList l items)->l≠s.heap.objs.size->Q (.ref s.heap.objs.size) s₂):wpAny (model prog w) A (pyIter (.ref l)) Q E s:=by
 have hlt:l<s.heap.objs.size:=by obtain⟨_,e,_⟩:=hl;exact Heap.lt_size e
 exact wpAny_pyIter_list hl (h _ rfl ⟨⟨_,Heap.get?_push_size _ rfl,rfl,rfl⟩,hl.push _⟩ (Nat.ne_of_lt hlt))
theorem iM {prog:Program}{w:World}{A:Around}{bs:List Bool}{its:List Value} (e:its=bs.map Value.bool) :
  TruthOf prog w A (fun i v=>its.toArray[i]?=some v) (fun i=>bs.getD i false):=fun i v s Q E hv hq=>by
 have hv':its[i]?=some v:=by simpa using hv
 rw[e,List.getElem?_map] at hv'
 obtain⟨b,hb,rfl⟩:=Option.map_eq_some_iff.mp hv'
 have hg:bs.getD i false=b:=by rw[List.getD_eq_getElem?_getD,hb] <;> rfl
 have hq':Q (bs.getD i false) s:=hq
 rw[hg] at hq'
 exact wpAny_truthy_bool hq'
theorem mj:∀bs:List Bool,(List.range bs.length).any (fun i=>bs.getD i false)=bs.any id
 | []=>rfl
 | b::bs=>by
  rw[List.length_cons,List.range_succ_eq_map,List.any_cons,List.any_map,List.any_cons,← mj bs]
  all_goals rfl
theorem ml:∀bs:List Bool,(List.range bs.length).all (fun i=>bs.getD i false)=bs.all id
 | []=>rfl
 | b::bs=>by
  rw[List.length_cons,List.range_succ_eq_map,List.all_cons,List.all_map,List.all_cons,← ml bs]
  all_goals rfl
section
variable {X:Cx}
def Aa (K:W.Frag):List V->Hp->VK->Prop:=fun vs H Q=>∃(a:Addr) (bs:List Bool),vs=[V.ref a]/\SqL K H a (bs.map V.bl)/\Q (.bl (bs.any id)) H
def Ab (K:W.Frag):List V->Hp->VK->Prop:=fun vs H Q=>∃(a:Addr) (bs:List Bool),vs=[V.ref a]/\SqL K H a (bs.map V.bl)/\Q (.bl (bs.all id)) H
theorem yR (hc:X.calm=true):eJ X (.builtin "any") (Aa X.K):=by
 intro pins s σ H vs us Q I r h
 obtain⟨a,bs,rfl,hs,q⟩:=h
 obtain⟨its,rv,hl,_⟩:=I.list hs
 rw[Vals.ref1 r]
 have hb:=rv.bls
 refine call_any_walk (oq hl.isList fun s₂ e2 st hne=>?_)
 subst e2
 refine⟨_,_,_,_,_,_,_,rfl,Walks.list (A:=X.A.in1) (I.ok.hd hc) _ a hne its.toArray,st,iM hb,fun h' tk hk=>?_⟩
 refine⟨.bl _,H,I.kept fun b o eo=>hk b o (fun hmem=>?_) (Heap.get?_push_of_some _ eo),?_,q⟩
 ·rcases List.mem_cons.mp hmem with e1 | hmem
  ·exact absurd (e1 ▸ Heap.lt_size eo) (Nat.lt_irrefl _)
  ·cases hmem
 ·show Value.bool _=Value.bool _
  rw[← mj,hb,List.size_toArray,List.length_map]
theorem qb (hc:X.calm=true):eJ X (.builtin "all") (Ab X.K):=by
 intro pins s σ H vs us Q I r h
 obtain⟨a,bs,rfl,hs,q⟩:=h
 obtain⟨its,rv,hl,_⟩:=I.list hs
 rw[Vals.ref1 r]
 have hb:=rv.bls
 refine call_all_walk (oq hl.isList fun s₂ e2 st hne=>?_)
 subst e2
 refine⟨_,_,_,_,_,_,_,rfl,Walks.list (A:=X.A.in1) (I.ok.hd hc) _ a hne its.toArray,st,iM hb,fun h' tk hk=>?_⟩
 refine⟨.bl _,H,I.kept fun b o eo=>hk b o (fun hmem=>?_) (Heap.get?_push_of_some _ eo),?_,q⟩
 ·rcases List.mem_cons.mp hmem with e1 | hmem
  ·exact absurd (e1 ▸ Heap.lt_size eo) (Nat.lt_irrefl _)
  ·cases hmem
 ·show Value.bool _=Value.bool _
  rw[← ml,hb,List.size_toArray,List.length_map]
end
mutual
inductive Dp (K:W.Frag) (H:Hp):V->PyData->Prop
 | non:Dp K H .non .none
 | bl (b:Bool):Dp K H (.bl b) (.bool b)
 | int (i:Int):Dp K H (.int i) (.int i)
 | str (x:Str):Dp K H (.str x) (.str x)
 | lst {a:Addr}{xs:List V}{ds:List PyData}:SqL K H a xs->DpAll K H xs ds->Dp K H (.ref a) (.list ds)
 | tup {a:Addr}{xs:List V}{ds:List PyData}:SqT K H a xs->DpAll K H xs ds->Dp K H (.ref a) (.tuple ds)
inductive DpAll (K:W.Frag) (H:Hp):List V->List PyData->Prop
 | nil:DpAll K H [] []
 | cons {v:V}{vs:List V}{d:PyData}{ds:List PyData}:Dp K H v d->DpAll K H vs ds->DpAll K H (v::vs) (d::ds)
end
section
variable {X:Cx}{pins:List (Addr×Obj)}{σ:St}{H:Hp}{s:Shared}
mutual
theorem Dp.reads (I:Inv X pins σ H s):∀(d:PyData) (v:V) (u:Value),Dp X.K H v d->RelV v u->∃as,Reads s.heap u d as
 | .none,_,_,h,r=>by
  cases h
  cases r
  exact⟨_,Reads.none⟩
 | .bool b,_,_,h,r=>by
  cases h
  cases r
  exact⟨_,Reads.bool b⟩
 | .int i,_,_,h,r=>by
  cases h
  obtain⟨t,rfl⟩:=r
  exact⟨_,Reads.int i t⟩
 | .str x,_,_,h,r=>by
  cases h
  obtain⟨t,rfl⟩:=r
  exact⟨_,Reads.str x t⟩
 | .list ds,_,_,h,r=>by
  cases h with
  | lst hs ha =>
   cases r
   obtain⟨its,rv,⟨o,n,ho,hc,_,hd⟩,_⟩:=I.list hs
   obtain⟨as,hr⟩:=Dp.readsAll I ds _ its ha rv
   exact⟨_,Reads.list ho hc hd hr⟩
 | .tuple ds,_,_,h,r=>by
  cases h with
  | tup hs ha =>
   cases r
   obtain⟨its,rv,⟨o,ho,hc,n,hd⟩,_⟩:=I.tuple hs
   obtain⟨as,hr⟩:=Dp.readsAll I ds _ its ha rv
   exact⟨_,Reads.tuple ho hc hd hr⟩
 | .dict _,_,_,h,_=>by cases h
theorem Dp.readsAll (I:Inv X pins σ H s):∀(ds:List PyData) (vs:List V) (us:List Value),DpAll X.K H vs ds->Vals vs us->∃as,ReadsAll s.heap us ds as
 | [],_,_,h,r=>by
  cases h
  cases r
  exact⟨_,ReadsAll.nil⟩
 | d::ds,_,_,h,r=>by
  cases h with
  | cons h1 h2 =>
   cases r with
   | cons r1 r2 =>
    obtain⟨as,q1⟩:=Dp.reads I d _ _ h1 r1
    obtain⟨bs,q2⟩:=Dp.readsAll I ds _ _ h2 r2
    exact⟨_,ReadsAll.cons q1 q2⟩
end
end
section
variable {X:Cx}
end
abbrev we (h:Heap) (c:Addr) (v:Option Value):Prop:=h.IsCell c v
def z5 (scope sc:Scope):Scope :=
 {scope with names:=scope.names.map fun (n,k)=>if (k==.free&&sc.kind==.function&&sc.names.lookup n==some .cell) then (n,.cell) else (n,k)}
def aW (cells:List (Str×Addr)):List (Str×NameKind)->List (Str×Addr)->List (Str×Addr)
 | [],acc=>acc
 | (n,k)::r,acc=>if k==.free then aW cells r ((n,(cells.lookup n).getD 0)::acc) else aW cells r acc
theorem g9 (env:Env) (f:Str×NameKind->List (Str×Addr)->Sem (ForInStep (List (Str×Addr))))
  (hf:∀n k c,f (n,k) c=if k==.free then (do let a ← cellOf env n;pure (.yield ((n,a)::c))) else pure (.yield c)) :
  ∀(names:List (Str×NameKind)) (acc:List (Str×Addr)),(∀y∈names,y.2=.free->∃c,env.cells.lookup y.1=some c)->forIn names acc f=pure (aW env.cells names acc)
 | [],acc,_=>by rw[List.forIn_nil];rfl
 | (n,k)::r,acc,h=>by
  rw[List.forIn_cons,hf]
  have ih:=fun acc=>g9 env f hf r acc fun y hy=>h y (List.mem_cons_of_mem _ hy)
  unfold aW
  by_cases hk:(k==NameKind.free)=true
  ·rw[if_pos hk,if_pos hk]
   obtain⟨c,hc⟩:=h (n,k) List.mem_cons_self (by simpa using hk)
   have e:cellOf env n=pure c:=by unfold cellOf;rw[hc]
   rw[e]
   have e2:(env.cells.lookup n).getD 0=c:=by rw[hc];rfl
   rw[e2]
   exact ih _
  ·rw[if_neg hk,if_neg hk]
   exact ih _
theorem kC {scope:Scope}{env:Env} (h:∀y∈scope.names,y.2=.free->∃c,env.cells.lookup y.1=some c):closureFor scope env=pure (aW env.cells scope.names []):=by
 simp only[closureFor]
 rw[g9 env _ (fun n k c=>rfl) scope.names [] h]
 rfl
theorem gd {α:Type}:∀{l:List (Str×α)}{n:Str}{c:α},(n,c)∈l->∃c',l.lookup n=some c'
 | (k,v)::r,n,c,h=>by
  rw[List.lookup_cons]
  cases hb:n==k with
  | true=>exact⟨_,rfl⟩
  | false =>
   rcases List.mem_cons.mp h with e | h
   ·cases e;simp at hb
   ·exact gd h
theorem cloFrom_mem {cells:List (Str×Addr)}:∀{names:List (Str×NameKind)}{acc:List (Str×Addr)}{n:Str}{c:Addr},(n,c)∈aW cells names acc->(n,c)∈acc∨((n,.free)∈names/\c=(cells.lookup n).getD 0)
 | [],_,_,_,h=>.inl h
 | (m,k)::r,acc,n,c,h=>by
  unfold aW at h
  split at h
  ·rename_i hk
   have hk:k=.free:=by simpa using hk
   rcases cloFrom_mem h with h | ⟨h1,h2⟩
   ·rcases List.mem_cons.mp h with e | h
    ·cases e;exact .inr ⟨hk ▸ List.mem_cons_self,rfl⟩
    ·exact .inl h
   ·exact .inr ⟨List.mem_cons_of_mem _ h1,h2⟩
  ·rcases cloFrom_mem h with h | ⟨h1,h2⟩
   ·exact .inl h
   ·exact .inr ⟨List.mem_cons_of_mem _ h1,h2⟩
theorem eI {cells:List (Str×Addr)}:∀{names:List (Str×NameKind)}{acc:List (Str×Addr)}{p:Str×Addr},p∈acc->p∈aW cells names acc
 | [],_,_,h=>h
 | (m,k)::r,acc,p,h=>by
  unfold aW
  split
  ·exact eI (List.mem_cons_of_mem _ h)
  ·exact eI h
theorem eF {cells:List (Str×Addr)}:∀{names:List (Str×NameKind)}{acc:List (Str×Addr)}{n:Str},(n,.free)∈names->(n,(cells.lookup n).getD 0)∈aW cells names acc
 | (m,k)::r,acc,n,h=>by
  unfold aW
  rcases List.mem_cons.mp h with e | h
  ·cases e
   exact eI List.mem_cons_self
  ·split
   ·exact eF h
   ·exact eF h
theorem cells_mem:∀{names:List (Str×NameKind)}{h:Heap}{acc:List (Str×Addr)}{x:Str}{c:Addr},(x,c)∈cellsFrom h.objs.size names acc ->
  (x,c)∈acc∨((x,.cell)∈names/\h.objs.size<=c/\we (pushCells h names) c none)
 | [],_,_,_,_,h=>.inl h
 | (n,k)::r,h,acc,x,c,hm=>by
  unfold cellsFrom at hm
  unfold pushCells
  split at hm
  ·rename_i hk
   rw[if_pos hk]
   have hk:k=.cell:=by simpa using hk
   rw[← Heap.size_push h {cls:=.type "cell",data:=.cell none}] at hm
   rcases cells_mem hm with hm | ⟨h1,h2,h3⟩
   ·rcases List.mem_cons.mp hm with e | hm
    ·cases e
     exact .inr ⟨hk ▸ List.mem_cons_self,Nat.le_refl _,_,pushCells_keeps r _ _ _ (Heap.get?_push_size _ rfl),rfl⟩
    ·exact .inl hm
   ·rw[Heap.size_push] at h2
    exact .inr ⟨List.mem_cons_of_mem _ h1,Nat.le_of_succ_le h2,h3⟩
  ·rename_i hk
   rw[if_neg hk]
   rcases cells_mem hm with hm | ⟨h1,h2,h3⟩
   ·exact .inl hm
   ·exact .inr ⟨List.mem_cons_of_mem _ h1,h2,h3⟩
theorem eQ:∀{names:List (Str×NameKind)}{n:Nat}{acc:List (Str×Addr)}{p:Str×Addr},p∈acc->p∈cellsFrom n names acc
 | [],_,_,_,h=>h
 | (m,k)::r,n,acc,p,h=>by
  unfold cellsFrom
  split
  ·exact eQ (List.mem_cons_of_mem _ h)
  ·exact eQ h
theorem iI:∀{names:List (Str×NameKind)}{n:Nat}{acc:List (Str×Addr)}{x:Str},(x,.cell)∈names->∃c,(x,c)∈cellsFrom n names acc
 | (m,k)::r,n,acc,x,h=>by
  unfold cellsFrom
  rcases List.mem_cons.mp h with e | h
  ·cases e
   exact⟨n,eQ List.mem_cons_self⟩
  ·split
   ·exact iI h
   ·exact iI h
theorem iH:∀{names:List (Str×NameKind)}{h:Heap}{acc:List (Str×Addr)}{x y:Str}{c:Addr},(∀p∈acc,p.2<h.objs.size)->(∀x y c,(x,c)∈acc->(y,c)∈acc->x=y) ->
  (x,c)∈cellsFrom h.objs.size names acc->(y,c)∈cellsFrom h.objs.size names acc->x=y
 | [],_,_,_,_,_,_,hi,h1,h2=>hi _ _ _ h1 h2
 | (n,k)::r,h,acc,x,y,c,hl,hi,h1,h2=>by
  unfold cellsFrom at h1 h2
  split at h1
  ·rename_i hk
   rw[if_pos hk] at h2
   rw[← Heap.size_push h {cls:=.type "cell",data:=.cell none}] at h1 h2
   refine iH (h:=h.push _) (fun p hp=>?_) (fun x y c a b=>?_) h1 h2
   ·rw[Heap.size_push]
    rcases List.mem_cons.mp hp with rfl | hp
    ·exact Nat.lt_succ_self _
    ·exact Nat.lt_succ_of_lt (hl p hp)
   ·rcases List.mem_cons.mp a with e | a <;> rcases List.mem_cons.mp b with e' | b
    ·cases e;cases e';rfl
    ·cases e;exact absurd (hl _ b) (Nat.lt_irrefl _)
    ·cases e';exact absurd (hl _ a) (Nat.lt_irrefl _)
    ·exact hi _ _ _ a b
  ·rename_i hk
   rw[if_neg hk] at h2
   exact iH hl hi h1 h2
theorem iV {M:Model}{A:Around}{E:Value->Shared->Prop}{s:Shared}{scope:Scope}{globals:Addr}{closure:List (Str×Addr)}{qual:Str}{func:Option Addr}{code:Value}{around:Env}{builtins:Addr}{Q:Env->Shared->Prop}
  (h:Q (newEnv scope s.heap.objs.size globals (cellsFrom (s.heap.objs.size+1) scope.names closure) qual func code (some around) builtins)
   {s with heap:=pushCells (s.heap.push {cls:=.type "dict",data:=.dict #[]}) scope.names}) :
  wpAny M A (newFunctionEnv scope globals closure [] qual func code (some around) builtins) Q E s:=by
 simp only[newFunctionEnv,Option.isSome_some,if_true]
 refine wpAny_bind (wpAny_alloc ?_)
 refine wpAny_bind (wpAny_layCells _ (fun n k c=>rfl) scope.names closure _ _ ?_)
 rw[show ({s with heap:=s.heap.push {cls:=.type "dict",data:=.dict #[]}}:Shared).heap.objs.size=s.heap.objs.size+1 from Heap.size_push ..]
 rw[List.forIn_nil]
 exact wpAny_bind (wpAny_pure (wpAny_pure h))
theorem d5 {sc:Scope}:∀{names:List (Str×NameKind)}{x:Str}{k:NameKind},
  (names.map fun (n,k)=>if (k==NameKind.free&&sc.kind==.function&&sc.names.lookup n==some .cell) then (n,NameKind.cell) else (n,k)).lookup x=some k ->
  ∃k',names.lookup x=some k'/\(k=k'∨(k'=.free/\k=.cell))
 | [],_,_,h=>by simp at h
 | (n,k₀)::r,x,k,h=>by
  have ih:=@d5 sc r x k
  have h':List.lookup x ((if (k₀==NameKind.free&&sc.kind==.function&&sc.names.lookup n==some .cell)=true then (n,NameKind.cell) else (n,k₀))::(r.map _))=some k:=h
  cases hx:x==n with
  | true =>
   simp only[List.lookup_cons,hx]
   by_cases hc:(k₀==NameKind.free&&sc.kind==.function&&sc.names.lookup n==some .cell)=true
   ·rw[if_pos hc] at h'
    simp only[List.lookup_cons,hx] at h'
    cases h'
    simp only[Bool.and_eq_true,beq_iff_eq] at hc
    exact⟨k₀,rfl,.inr ⟨hc.1.1,rfl⟩⟩
   ·rw[if_neg hc] at h'
    simp only[List.lookup_cons,hx] at h'
    cases h'
    exact⟨_,rfl,.inl rfl⟩
  | false =>
   simp only[List.lookup_cons,hx]
   by_cases hc:(k₀==NameKind.free&&sc.kind==.function&&sc.names.lookup n==some .cell)=true
   ·rw[if_pos hc] at h'
    simp only[List.lookup_cons,hx] at h'
    exact ih h'
   ·rw[if_neg hc] at h'
    simp only[List.lookup_cons,hx] at h'
    exact ih h'
structure BlkOk (N:List Str) (sc scope:Scope) (own:List (Str×Nat)):Prop where
 kind:scope.kind=.function
 uniq:∀y∈scope.names,scope.names.lookup y.1=some y.2
 ix:∀p∈own,N[p.2]?=some p.1
 free:∀y∈scope.names,y.2=.free->sc.names.lookup y.1=some .cell∨sc.names.lookup y.1=some .free
 own:∀y∈scope.names,y.2=.local ∨ y.2=.cell->y.1∈own.map (·.1)∨y.1∉N
def wipe (σ:St):List Nat->St
 | []=>σ
 | v::vs=>(wipe σ vs).set v none
theorem cN (σ:St):∀vs:List Nat,(wipe σ vs).length=σ.length
 | []=>rfl
 | v::vs=>by unfold wipe;rw[List.length_set,cN σ vs]
theorem eK {σ:St}{i:Nat}{x:V}:∀{vs:List Nat},(wipe σ vs)[i]?=some (some x)->σ[i]?=some (some x)/\i∉vs
 | [],h=>⟨h,by simp⟩
 | v::vs,h=>by
  unfold wipe at h
  by_cases hi:v=i
  ·subst hi
   by_cases hv:v<(wipe σ vs).length
   ·rw[List.getElem?_set_self hv] at h;cases h
   ·rw[List.getElem?_eq_none (by simpa using hv)] at h;cases h
  ·rw[List.getElem?_set_ne hi] at h
   obtain⟨h1,h2⟩:=eK h
   exact⟨h1,by simp only[List.mem_cons,not_or];exact⟨fun e=>hi e.symm,h2⟩⟩
abbrev Cx.blk (X:Cx) (s:Shared) (H:Hp) (scope:Scope) (cenv:Env) (fp:List Addr):Cx:={X with s_0:=s,H_0:=H,env:=cenv,outer:=X.stack,ex:=fp,fn:=fun x=>scope.names.lookup x==some .cell,pn:=[],xe:=fun _ _=>False}
section
variable {X:Cx}{pins:List (Addr×Obj)}{σ:St}{H:Hp}{s:Shared}
theorem ja {scope:Scope}{own:List (Str×Nat)}{fp:List Addr} (I:Inv X pins σ H s) (ok:BlkOk X.N X.env.scope scope own) (hN:X.N.Nodup) (hfp:∀b∈fp,FpOk X pins H b/\b<s.heap.objs.size) :
  Inv (X.blk s H scope (compEnvC scope (cellsFrom (s.heap.objs.size+1) scope.names (aW X.env.cells scope.names [])) s.heap.objs.size X.env) fp) [] (wipe σ (own.map (·.2))) H {s with heap:=pushCells (s.heap.push {cls:=.type "dict",data:=.dict #[]}) scope.names}:=by
 have hfree:∀y∈scope.names,y.2=.free->∃c,X.env.cells.lookup y.1=some c:=fun y hy e=>by
  rcases ok.free y hy e with k | k
  ·exact I.ok.has _ (.inl k)
  ·exact I.ok.has _ (.inr k)
 generalize hcenv:compEnvC scope (cellsFrom (s.heap.objs.size+1) scope.names (aW X.env.cells scope.names [])) s.heap.objs.size X.env=cenv
 have kp:∀b o,s.heap.get? b=some o->(pushCells (s.heap.push {cls:=.type "dict",data:=.dict #[]}) scope.names).get? b=some o:=fun b o e=>pushCells_keeps _ _ _ _ (Heap.get?_push_of_some _ e)
 have hL:cenv.locals=s.heap.objs.size:=by rw[← hcenv];rfl
 have hcl:cenv.cells=cellsFrom (s.heap.objs.size+1) scope.names (aW X.env.cells scope.names []):=by rw[← hcenv];rfl
 have hsc:cenv.scope=z5 scope X.env.scope:=by rw[← hcenv];rfl
 rw[← Heap.size_push s.heap {cls:=.type "dict",data:=.dict #[]}] at hcl
 have cm:∀{y c},(y,c)∈aW X.env.cells scope.names []->X.env.cells.lookup y=some c/\c<s.heap.objs.size:=fun {y c} hm=>by
  rcases cloFrom_mem hm with hm | ⟨h1,rfl⟩
  ·cases hm
  ·obtain⟨c,hc⟩:=hfree _ h1 rfl
   rw[hc]
   obtain⟨w,z⟩:=I.cell _ _ hc
   exact⟨rfl,z.lt⟩
 have mem:∀{y c},cenv.cells.lookup y=some c->(X.env.cells.lookup y=some c/\c<s.heap.objs.size)∨(s.heap.objs.size+1<=c/\we (pushCells (s.heap.push {cls:=.type "dict",data:=.dict #[]}) scope.names) c none):=fun {y c} e=>by
  rw[hcl] at e
  rcases cells_mem (PySem.mem_of_lookup e) with hm | ⟨_,h2,h3⟩
  ·exact .inl (cm hm)
  ·rw[Heap.size_push] at h2;exact .inr ⟨h2,h3⟩
 have look:∀{y},scope.names.lookup y=some .free->∃c,cenv.cells.lookup y=some c/\X.env.cells.lookup y=some c:=fun {y} hl=>by
  have hy:(y,NameKind.free)∈scope.names:=PySem.mem_of_lookup hl
  obtain⟨c',e'⟩:=gd (eQ (names:=scope.names) (n:=(s.heap.push {cls:=.type "dict",data:=.dict #[]}).objs.size) (eF (cells:=X.env.cells) (acc:=[]) hy))
  rw[← hcl] at e'
  refine⟨c',e',?_⟩
  rw[hcl] at e'
  rcases cells_mem (PySem.mem_of_lookup e') with hm | ⟨h1,_,_⟩
  ·exact (cm hm).1
  ·have:=ok.uniq _ h1
   rw[hl] at this;cases this
 have okB:(X.blk s H scope cenv fp).Ok:=by
  refine⟨I.ok.mod,by show cenv.scope.kind=_;rw[hsc];exact ok.kind,by show cenv.globals=_;rw[← hcenv];exact I.ok.glob,by show cenv.builtins=_;rw[← hcenv];exact I.ok.blt,by show s.heap.objs.size<=cenv.locals;rw[hL];exact Nat.le_refl _,
   fun y z c e1 e2=>?_,fun y hy=>?_,fun y c z e=>?_,I.ok.hd,I.ok.frames,.inl rfl,fun b hb=>⟨?_,fun y c e z=>?_⟩,I.bs,Nat.le_trans I.ok.bsz I.sz,fun b o e hb=>?_,fun b hb z=>?_,I.stack,I.stkFree⟩
  ·have e1:cenv.cells.lookup y=some c:=e1
   have e2:cenv.cells.lookup z=some c:=e2
   rw[hcl] at e1 e2
   refine iH (fun p hp=>?_) (fun y z c a b=>I.ok.inj y z c (cm a).1 (cm b).1) (PySem.mem_of_lookup e1) (PySem.mem_of_lookup e2)
   rw[Heap.size_push]
   exact Nat.lt_succ_of_lt (cm (y:=p.1) (c:=p.2) hp).2
  ·show ∃c,cenv.cells.lookup y=some c
   have key:∀k,cenv.kindOf y=some k->(k=.cell∨k=.free)->∃c,cenv.cells.lookup y=some c:=fun k hk hk'=>by
    unfold Env.kindOf at hk
    rw[hsc] at hk
    obtain⟨k',e,r⟩:=d5 hk
    have:k'=.cell∨k'=.free:=by
     rcases r with rfl | ⟨rfl,_⟩
     ·exact hk'
     ·exact .inr rfl
    rcases this with rfl | rfl
    ·obtain⟨c,hm⟩:=iI (n:=(s.heap.push {cls:=.type "dict",data:=.dict #[]}).objs.size) (acc:=aW X.env.cells scope.names []) (PySem.mem_of_lookup e)
     obtain⟨c',e'⟩:=gd hm
     exact⟨c',by rw[hcl];exact e'⟩
    ·obtain⟨c,h1,_⟩:=look e
     exact⟨c,h1⟩
   rcases hy with hy | hy
   ·exact key _ hy (.inl rfl)
   ·exact key _ hy (.inr rfl)
  ·have z:(scope.names.lookup y==some NameKind.cell)=true:=z
   have z:scope.names.lookup y=some .cell:=by simpa using z
   have e:cenv.cells.lookup y=some c:=e
   rw[hcl] at e
   rcases cells_mem (PySem.mem_of_lookup e) with hm | ⟨_,h2,_⟩
   ·rcases cloFrom_mem hm with hm | ⟨h1,_⟩
    ·cases hm
    ·have q:=ok.uniq _ h1
     rw[z] at q;cases q
   ·rw[Heap.size_push] at h2
    exact Nat.le_of_succ_le h2
  ·show b≠cenv.locals
   rw[hL];exact Nat.ne_of_lt (hfp b hb).2
  ·have e:cenv.cells.lookup y=some c:=e
   rcases mem e with ⟨h1,_⟩ | ⟨h1,_⟩
   ·exact (hfp b hb).1.2.2.2.2.1 y c h1 z
   ·have h2:s.heap.objs.size+1<=b:=by rw[← z];exact h1
    exact absurd (Nat.lt_of_lt_of_le (hfp b hb).2 (Nat.le_of_succ_le h2)) (Nat.lt_irrefl _)
  ·rcases (hfp b hb).1.2.2.2.1 with z | z
   ·exact I.ok.noex b o e z
   ·exact absurd (Nat.lt_of_lt_of_le (Heap.lt_size e) (Nat.le_trans I.ok.bsz z)) (Nat.lt_irrefl _)
  ·rcases List.mem_cons.mp (I.stkSub b z) with z | z
   ·exact (hfp b hb).1.2.1 z
   ·exact (hfp b hb).1.2.2.1 z
 refine⟨okB,rfl,I.bare,Un.kept kp,⟨fun _=>none,?_,fun i y av e1 e2 e3=>?_⟩,fun y c e=>?_,?_,fun y c e=>?_,fun p hp=>?_,I.hok.kept kp,by rw[cN];exact I.len⟩
 ·show Heap.Ns _ cenv.locals _
  rw[hL]
  exact Heap.Ns.keeps (Heap.Ns.new ..) fun b o e=>pushCells_keeps _ _ _ _ e
 ·obtain⟨e2,hne⟩:=eK e2
  have hfr:scope.names.lookup y=some .free/\(cenv.kindOf y=some .cell∨cenv.kindOf y=some .free):=by
   have key:∀k,cenv.scope.names.lookup y=some k->k=.local ∨ k=.cell∨k=.free->scope.names.lookup y=some .free/\(cenv.kindOf y=some .cell∨cenv.kindOf y=some .free):=fun k hk hk'=>by
    have hk0:=hk
    rw[hsc] at hk
    obtain⟨k',e,r⟩:=d5 hk
    have no:¬(k'=.local ∨ k'=.cell):=fun hh=>by
     rcases ok.own _ (PySem.mem_of_lookup e) hh with e' | e'
     ·obtain⟨p,hp,hpy⟩:=List.mem_map.mp e'
      have e3:=ok.ix p hp
      have:p.1=y:=hpy
      rw[this] at e3
      exact hne (List.mem_map.mpr ⟨p,hp,jP hN e3 e1⟩)
     ·exact e' (List.mem_of_getElem? e1)
    rcases r with rfl | ⟨rfl,rfl⟩
    ·rcases hk' with rfl | rfl | rfl
     ·exact absurd (.inl rfl) no
     ·exact absurd (.inr rfl) no
     ·exact⟨e,.inr hk0⟩
    ·exact⟨e,.inl hk0⟩
   have e3:Vis cenv.scope y:=e3
   rcases e3 with e3 | e3 | e3
   ·exact key _ e3 (.inl rfl)
   ·exact key _ e3 (.inr (.inl rfl))
   ·exact key _ e3 (.inr (.inr rfl))
  obtain⟨m,hn,hl⟩:=I.loc
  have hvis:Vis X.env.scope y:=(ok.free _ (PySem.mem_of_lookup hfr.1) rfl).elim (fun k=>.inr (.inl k)) (fun k=>.inr (.inr k))
  obtain⟨w,r,q⟩:=hl i y av e1 e2 hvis
  refine⟨w,r,.inr ⟨hfr.2,?_⟩⟩
  obtain⟨c,h1,h2⟩:=look hfr.1
  rcases q with ⟨k,_⟩ | ⟨_,c',e',z⟩
  ·have k:X.env.scope.names.lookup y=some .local := k
   rcases ok.free _ (PySem.mem_of_lookup hfr.1) rfl with k' | k' <;> rw[show X.env.scope.names.lookup y=_ from k'] at k <;> cases k
  ·rw[h2] at e';cases e'
   exact⟨c,h1,z.keeps kp⟩
 ·have e:cenv.cells.lookup y=some c:=e
  rcases mem e with ⟨h1,_⟩ | ⟨_,z⟩
  ·obtain⟨w,z⟩:=I.cell y c h1
   exact⟨w,z.keeps kp⟩
  ·exact⟨_,z⟩
 ·show H cenv.locals=none
  rw[hL];exact I.hok.fresh (Nat.le_refl _)
 ·have e:cenv.cells.lookup y=some c:=e
  rcases mem e with ⟨h1,_⟩ | ⟨h1,_⟩
  ·exact I.freeC y c h1
  ·exact I.hok.fresh (Nat.le_of_succ_le h1)
 ·exact absurd (show p∈([]:List (Addr×Obj))++[] from hp) (by simp)
theorem vX {E:Value->Shared->Prop}{D:Addr}{xs:List V}{y:V}{v:Value}{Q:Value->Shared->Prop} (I:Inv X pins σ H s) (hD:H D=some (.lst xs)) (hz:xs.length<sizeLine) (r:RelV y v)
  (h:∀s',Inv X pins σ (upd H D (.lst (xs++[y]))) s'->Q .none s'):wpAny (model X.prog X.w) X.A (call (.builtin "list.append") [.ref D,v]) Q E s:=by
 obtain⟨hz',its,n,ri,e⟩:=I.hok D _ hD
 have hl:=ri.length
 refine append_at (hsz:=by rw[List.size_toArray];omega) e fun h' sb ho'=>?_
 refine h {s with heap:=h'} (I.write (t':=s.toks) (by rw[hD];trivial) (.inl rfl) (fun b u hb q=>(sb.2 b hb).trans q) ⟨_,ho'⟩ ⟨by rw[List.length_append];exact hz,its++[v],n+1,ri.append (.cons r .nil),?_⟩)
 rw[ho']
 simp
def PTs (X:Cx) (ifs:List Expr) (t:TT):Prop :=
 ∀(pins:List (Addr×Obj)) (s:Shared) (σ:St) (H:Hp) (Q:Bool->Hp->Prop),Inv X pins σ H s->t σ H Q ->
  wpAny (model X.prog X.w) X.A (forIn ifs true fun c r=>if r=true then do let ok ← isTrue c X.env (eval c X.env);pure (ForInStep.yield ok) else pure (ForInStep.yield r)) (TP X pins σ Q) X.xe s
def yU:TT:=fun _ H Q=>Q true H
theorem cr:PTs X [] yU:=fun _ _ _ H _ I h=>wpAny_tests_nil ⟨H,I,h⟩
theorem mF {c:Expr}{t:TT} (h:PT X c t):PTs X [c] t:=fun pins s σ H Q I hw=>wpAny_tests_one (h pins s σ H Q I hw)
end
theorem ju {α:Type}{t:Sem α}{Q Q':α->Shared->Prop}{M:Model}{A:Around}{E:Value->Shared->Prop}{s:Shared} (h:wpAny M A t Q (fun _ _=>False) s) (hQ:∀a s,Q a s->Q' a s):wpAny M A t Q' E s:=wpAny_mono h hQ fun _ _ z=>False.elim z
theorem g8 {prog:Program}{w:World}{A:Around}{R:Result->Shared->Prop}{s:Shared}{elt target iter:Expr}{ifs:List Expr}{scope:Scope}{pos:Pos}{it acc:Value}{env:Env} (I:Nat->Shared->Prop)
  (turn:∀n s,I n s->wpAny (model prog w) A (pyNext it) (fun r s₁=>match r with
   | none=>R (.ok .next) s₁
   | some v=>wpAny (model prog w) A (letOwnedTupleGo target it v) (fun _ s₁'=>wpAny (model prog w) A (assign target env v) (fun _ s₂ =>
     wpAny (model prog w) A (forIn ifs true fun c r=>if r=true then do let ok ← isTrue c env (eval c env);pure (ForInStep.yield ok) else pure (ForInStep.yield r)) (fun ok s₃ =>
      if ok=true then wpAny (model prog w) A (eval elt env) (fun x s₄ =>
       wpAny (model prog w) A (call (.builtin "list.append") [acc,x]) (fun _ s₅=>∃m,m<n/\I m s₅) (notedBy (model prog w) A env fun e s'=>R (.error e) s') s₄) (notedBy (model prog w) A env fun e s'=>R (.error e) s') s₃
      else ∃m,m<n/\I m s₃) (notedBy (model prog w) A env fun e s'=>R (.error e) s') s₂) (notedBy (model prog w) A env fun e s'=>R (.error e) s') s₁') (notedBy (model prog w) A env fun e s'=>R (.error e) s') s₁) (notedBy (model prog w) A env fun e s'=>R (.error e) s') s)
  (n:Nat) (h:I n s) :
  codeAny (model prog w) A (.compLoop (.ListComp elt [⟨target,iter,ifs,0⟩] scope pos) 0 it acc env) R s:=by
 refine codeAny_loop rfl I (fun n s hI=>?_) n h
 show wpAny _ A ((compTurn (.ListComp elt [⟨target,iter,ifs,0⟩] scope pos) 0 it acc env).onRaise (fun x=>do noteFrame x env;theTreesLotGoes x)) _ _ s
 refine wpAny_noted ?_
 rw[compTurn_list]
 refine wpAny_bind (wpAny_standAt (wpAny_bind (wpAny_mono (turn n s hI) (fun r s₁ h₁=>?_) fun _ _ h'=>h')))
 cases r with
 | none=>exact wpAny_pure h₁
 | some v =>
  refine wpAny_bind (wpAny_mono h₁ (fun _ s₁' h₁'=>?_) fun _ _ h'=>h')
  refine wpAny_bind (wpAny_mono h₁' (fun _ s₂ h₂=>wpAny_bind (wpAny_mono h₂ (fun ok s₃ h₃=>?_) fun _ _ h'=>h')) fun _ _ h'=>h')
  cases ok with
  | false=>exact wpAny_pure ⟨rfl,h₃⟩
  | true =>
   exact wpAny_bind (wpAny_bind (wpAny_mono h₃ (fun x s₄ h₄=>wpAny_bind (wpAny_mono h₄ (fun _ s₅ h₅=>wpAny_pure (wpAny_pure ⟨rfl,h₅⟩)) fun _ _ h'=>h')) fun _ _ h'=>h'))
section
variable {X:Cx}
def tLc (wi:TI) (g:TG) (tt:TT) (te:TE) (vs:List Nat):TE:=fun σ H Q=>wi σ H fun J H1=>∀D,H1 D=none->∃W:Nat->Nat->Hp->Prop,(∃m,W 0 m (upd H1 D (.lst [])))/\∀i m H,W i m H ->
 (J.stop i H/\Q (.ref D) H)∨(J.go i H/\∃Nx:Hp->Prop,(∀H',Nx H'->∃m',m'<m/\W (i+1) m' H')/\∀x H',J.yld i H x H'->g x (wipe σ vs) H' fun σ2 H2=>wipe σ2 vs=wipe σ vs/\tt σ2 H2 fun b H3 =>
  if b=true then te σ2 H3 fun y H4=>∃acc,H4 D=some (.lst acc)/\acc.length<sizeLine/\Nx (upd H4 D (.lst (acc++[y]))) else Nx H3)
theorem qZ {pins:List (Addr×Obj)}{s:Shared}{σ:St}{H:Hp}{Q:VK}{elt tg iter:Expr}{ifs:List Expr}{scope:Scope}{own:List (Str×Nat)}{pos pos':Pos}{wi:TI}{g:TG}{tt:TT}{te:TE}{use:Option (Value->Sem Unit)}{Qf:Value->Shared->Prop}
  (hc:X.calm=true) (hN:X.N.Nodup) (I:Inv X pins σ H s) (hi:PI X tg iter wi) (ok:BlkOk X.N X.env.scope scope own)
  (hg:∀(s:Shared) (H:Hp) (C:Addr) (cl:List (Str×Addr)) (fp:List Addr),PG (X.blk s H scope (compEnvC scope cl C X.env) fp) tg g) (ht:∀(s:Shared) (H:Hp) (C:Addr) (cl:List (Str×Addr)) (fp:List Addr),PTs (X.blk s H scope (compEnvC scope cl C X.env) fp) ifs tt)
  (he:∀(s:Shared) (H:Hp) (C:Addr) (cl:List (Str×Addr)) (fp:List Addr),PE (X.blk s H scope (compEnvC scope cl C X.env) fp) elt te) (hs:∀x,foldedSetIterable iter X.env x=pure x)
  (h:tLc wi g tt te (own.map (·.2)) σ H Q)
  (hRR:∀D C s' m H',Inv X pins σ H' s'->Q (.ref D) H'->s'.heap.Ns C m->FpOk X pins H' C->compPost (model X.prog X.w) X.A X.xe use Qf (.ref D) C (.ok .next) s') :
  wpAny (model X.prog X.w) X.A (comprehension (.ListComp elt [⟨tg,iter,ifs,0⟩] scope pos) scope X.env pos' (newList []) false (eval iter X.env) use) Qf X.xe s:=by
 have hfree:∀y∈scope.names,y.2=.free->∃c,X.env.cells.lookup y.1=some c:=fun y hy e=>by
  rcases ok.free y hy e with k | k
  ·exact I.ok.has _ (.inl k)
  ·exact I.ok.has _ (.inr k)
 refine wpAny_comprehension_free (use:=use) rfl hs (kC hfree) ok.kind (fun y hy e=>by rw[ok.uniq y hy,e])
  (thn (hi pins s σ H _ I h) fun xv s1 hx=>thn hx fun itv s2 h2=>?_)
 obtain⟨it,fp,tn,J,H2,e,I2,T,st2,f2,q⟩:=h2
 subst e
 refine wpAny_newObj_type (iV ?_) (by show 0<=sizeLine;decide)
 generalize hD:s2.heap.objs.size=D
 have hDn:H2 D=none:=I2.hok.fresh (Nat.le_of_eq hD)
 obtain⟨W,⟨m0,w0⟩,turn⟩:=q D hDn
 generalize hs3:({s2 with heap:=s2.heap.push {cls:=.type "list",data:=.seq ([]:List Value).toArray}}:Shared)=s3
 have I3:Inv X pins σ (upd H2 D (.lst [])) s3:=by
  rw[← hs3]
  refine I2.laid (t':=s2.toks) (fun b o e=>Heap.get?_push_of_some _ e) (Nat.le_of_eq hD) ⟨Nat.zero_le _,[],0,.nil,?_⟩
  rw[← hD]
  exact Heap.get?_push_size _ rfl
 have h3:s3.heap=s2.heap.push {cls:=.type "list",data:=.seq ([]:List Value).toArray}:=by rw[← hs3]
 have sz:∀b∈fp,b<s2.heap.objs.size:=fun b hb=>by
  obtain⟨o,e,_⟩:=T.obj _ _ st2 b hb
  exact Heap.lt_size e
 have f3:∀b∈fp,FpOk X pins (upd H2 D (.lst [])) b/\b<s3.heap.objs.size:=fun b hb=>by
  have hlt:=sz b hb
  refine⟨⟨?_,(f2 b hb).2⟩,by rw[h3,Heap.size_push];exact Nat.lt_succ_of_lt hlt⟩
  rw[ai (by rw[← hD];exact Nat.ne_of_lt hlt)]
  exact (f2 b hb).1
 have st3:tn 0 s3.heap:=T.keep _ _ _ st2 fun b _ o e=>by rw[h3];exact Heap.get?_push_of_some _ e
 have I4:=ja I3 ok hN f3
 have pg:=hg s3 (upd H2 D (.lst [])) s3.heap.objs.size (cellsFrom (s3.heap.objs.size+1) scope.names (aW X.env.cells scope.names [])) fp
 have pt:=ht s3 (upd H2 D (.lst [])) s3.heap.objs.size (cellsFrom (s3.heap.objs.size+1) scope.names (aW X.env.cells scope.names [])) fp
 have pe:=he s3 (upd H2 D (.lst [])) s3.heap.objs.size (cellsFrom (s3.heap.objs.size+1) scope.names (aW X.env.cells scope.names [])) fp
 show codeAny _ _ (.compStart (.ListComp elt [⟨tg,iter,ifs,0⟩] scope pos) 0 (.ref it) (.ref D) (compEnvC scope (cellsFrom (s3.heap.objs.size+1) scope.names (aW X.env.cells scope.names [])) s3.heap.objs.size X.env)) (compPost (model X.prog X.w) X.A X.xe use Qf (.ref D) s3.heap.objs.size) {s3 with heap:=pushCells (s3.heap.push {cls:=.type "dict",data:=.dict #[]}) scope.names}
 have nfp:∀b∈fp,(upd H2 D (.lst [])) b=none:=fun b hb=>(f3 b hb).1.1
 generalize hce:compEnvC scope (cellsFrom (s3.heap.objs.size+1) scope.names (aW X.env.cells scope.names [])) s3.heap.objs.size X.env=ce at I4 pg pt pe ⊢
 have cL:ce.locals=s3.heap.objs.size:=by subst hce;rfl
 generalize hH3:upd H2 D (.lst [])=H3 at I3 I4 pg pt pe w0 nfp f3
 generalize hs4:({s3 with heap:=pushCells (s3.heap.push {cls:=.type "dict",data:=.dict #[]}) scope.names}:Shared)=s4 at I4 ⊢
 have st4:tn 0 s4.heap:=T.keep _ _ _ st3 fun b _ o e=>by rw[← hs4];exact pushCells_keeps _ _ _ _ (Heap.get?_push_of_some _ e)
 have stat:∀{σ':St}{H':Hp}{s':Shared},Inv (X.blk s3 H3 scope ce fp) [] σ' H' s'->(∀b∈fp,H' b=none)->∀b∈fp,FpOk (X.blk s3 H3 scope ce fp) [] H' b:=fun {σ' H' s'} I' hn b hb =>
  ⟨hn b hb,(I'.ok.exf b hb).1,I'.ok.exfs b hb,.inl hb,fun x c e=>(I'.ok.exf b hb).2 x c e,fun p hp=>absurd (show p∈([]:List (Addr×Obj))++[] from hp) (by simp)⟩
 have loop:codeAny (model X.prog X.w) X.A (.compLoop (.ListComp elt [⟨tg,iter,ifs,0⟩] scope pos) 0 (.ref it) (.ref D) ce) (compPost (model X.prog X.w) X.A X.xe use Qf (.ref D) s3.heap.objs.size) s4:=by
  refine g8 (fun n s'=>∃i H',Inv (X.blk s3 H3 scope ce fp) [] (wipe σ (own.map (·.2))) H' s'/\tn i s'.heap/\(∀b∈fp,H' b=none)/\W i n H') ?_ m0 ⟨0,H3,I4,st4,nfp,w0⟩
  rintro n s5 ⟨i,H5,I5,st5,n5,w5⟩
  rcases turn i n H5 w5 with ⟨stop,qq⟩ | ⟨go,Nx,hNx,step⟩
  ·have td:=T.done (X.blk s3 H3 scope ce fp) rfl rfl rfl hc i [] s5 _ H5 (fun _ _=>False) I5 (stat I5 n5) st5 stop
   refine ju td fun r s6 ⟨hr,I6⟩=>?_
   subst hr
   have I7:Inv X pins σ H5 s6:=I3.call' (ch:=fp) I6.os I6.base I6.hok I6.bare fun b hb=>⟨(f3 b hb).1.2.2.2.1,(f3 b hb).1.2.1,(f3 b hb).1.2.2.2.2.1,(f3 b hb).1.2.2.2.2.2⟩
   have nC:H5 s3.heap.objs.size=none:=by
    have z:H5 ce.locals=none:=I6.free
    rw[cL] at z
    exact z
   obtain⟨m,hn,_⟩:=I6.loc
   have hn:s6.heap.Ns ce.locals m:=hn
   rw[cL] at hn
   exact hRR D s3.heap.objs.size s6 m H5 I7 qq hn (I3.fpOk (Nat.le_refl _) nC)
  ·have ti:=T.item (X.blk s3 H3 scope ce fp) rfl rfl rfl hc i [] s5 _ H5 (fun _ _=>False) I5 (stat I5 n5) st5 go
   refine ju ti fun r s6 ⟨u,hr,h6⟩=>?_
   subst hr
   refine ju h6 fun _ s7 ⟨x,H7,I7,r7,y7,st7,n7⟩=>?_
   have I7':=I7.pinned (stat I7 n7) (T.obj _ _ st7)
   refine ju (pg _ s7 _ H7 x u _ I7' r7 (step x H7 y7)) fun _ s8 ⟨σ8,H8,I8,hw8,q8⟩=>?_
   refine ju (pt _ s8 σ8 H8 _ I8 q8) fun b s9 ⟨H9,I9,q9⟩=>?_
   have fin:∀{s':Shared}{H':Hp},Inv (X.blk s3 H3 scope ce fp) ([]++ii fp s7.heap) σ8 H' s'->Nx H'->∃m,m<n/\∃i H',Inv (X.blk s3 H3 scope ce fp) [] (wipe σ (own.map (·.2))) H' s'/\tn i s'.heap/\(∀b∈fp,H' b=none)/\W i m H':=fun {s' H'} I' nx=>by
    obtain⟨m',hm,w'⟩:=hNx H' nx
    have pin':∀b∈fp,∀o,s7.heap.get? b=some o->s'.heap.get? b=some o/\H' b=none:=fun b hb o e =>
     let z:=I'.pin (b,o) (List.mem_append_right _ (List.mem_append_right _ (dC hb e)))
     ⟨z.1,z.2.1⟩
    have hl:(wipe σ (own.map (·.2))).length=σ8.length:=by rw[← hw8,cN]
    refine⟨m',hm,i+1,H',(I'.unpinned (pins:=[])).weak hl (fun j v e=>?_),T.keep _ _ _ st7 fun b hb o e=>(pin' b hb o e).1,fun b hb=>?_,w'⟩
    ·rw[← hw8] at e
     exact (eK e).1
    ·obtain⟨o,e,_⟩:=T.obj _ _ st7 b hb
     exact (pin' b hb o e).2
   cases b with
   | false =>
    simp only[Bool.false_eq_true,if_false] at q9 ⊢
    exact fin I9 q9
   | true =>
    simp only[if_true] at q9 ⊢
    refine ju (pe _ s9 σ8 H9 _ I9 q9) fun z s10 ⟨yv,H10,I10,r10,acc,hD10,hz10,nx⟩=>?_
    exact vX (X:=X.blk s3 H3 scope ce fp) I10 hD10 hz10 r10 fun s11 I11=>fin I11 nx
 exact codeAny_compStart_list loop (T.self X.A 0 _ _ _ st4 loop)
theorem jJ {elt tg iter:Expr}{ifs:List Expr}{scope:Scope}{own:List (Str×Nat)}{pos:Pos}{wi:TI}{g:TG}{tt:TT}{te:TE} (hc:X.calm=true) (hN:X.N.Nodup) (hi:PI X tg iter wi) (ok:BlkOk X.N X.env.scope scope own)
  (hg:∀(s:Shared) (H:Hp) (C:Addr) (cl:List (Str×Addr)) (fp:List Addr),PG (X.blk s H scope (compEnvC scope cl C X.env) fp) tg g) (ht:∀(s:Shared) (H:Hp) (C:Addr) (cl:List (Str×Addr)) (fp:List Addr),PTs (X.blk s H scope (compEnvC scope cl C X.env) fp) ifs tt)
  (he:∀(s:Shared) (H:Hp) (C:Addr) (cl:List (Str×Addr)) (fp:List Addr),PE (X.blk s H scope (compEnvC scope cl C X.env) fp) elt te) (hs:∀x,foldedSetIterable iter X.env x=pure x:=by intro _;rfl) :
  PE X (.ListComp elt [⟨tg,iter,ifs,0⟩] scope pos) (tLc wi g tt te (own.map (·.2))):=by
 intro pins s σ H Q I h
 rw[eval_ListComp]
 refine qZ hc hN I hi ok hg ht he hs h fun D C s' m H' I' q hn f=>⟨m,hn,fun h'' sb=>?_⟩
 obtain⟨f0,f1,f2,f3,f4,f5⟩:=f
 exact⟨.ref D,H',I'.turned (t':=s'.toks) (fun b o hb e=>(sb.2 b hb).trans e) f0 f1 f3 f4 f5,rfl,q⟩
theorem gp {i:Nat}{y:Str}{py:Pos}{elt tg iter:Expr}{ifs:List Expr}{scope:Scope}{own:List (Str×Nat)}{pos spos:Pos}{wi:TI}{g:TG}{tt:TT}{te:TE} (hc:X.calm=true) (hN:X.N.Nodup) (hy:X.N[i]?=some y) (hyl:X.env.scope.names.lookup y=some .local)
  (hsw:swapsWith (.ListComp elt [⟨tg,iter,ifs,0⟩] scope pos) (some (.Name y py)) spos.line X.env=pure true) (hi:PI X tg iter wi) (ok:BlkOk X.N X.env.scope scope own)
  (hg:∀(s:Shared) (H:Hp) (C:Addr) (cl:List (Str×Addr)) (fp:List Addr),PG (X.blk s H scope (compEnvC scope cl C X.env) fp) tg g) (ht:∀(s:Shared) (H:Hp) (C:Addr) (cl:List (Str×Addr)) (fp:List Addr),PTs (X.blk s H scope (compEnvC scope cl C X.env) fp) ifs tt)
  (he:∀(s:Shared) (H:Hp) (C:Addr) (cl:List (Str×Addr)) (fp:List Addr),PE (X.blk s H scope (compEnvC scope cl C X.env) fp) elt te) (hs:∀x,foldedSetIterable iter X.env x=pure x:=by intro _;rfl) :
  PS X (.Assign [.Name y py] (.ListComp elt [⟨tg,iter,ifs,0⟩] scope pos) spos) (xZ (tLc wi g tt te (own.map (·.2))) (cH i)):=by
 intro pins s σ H D I h
 rw[exec_Assign_Name_used _ _ _ _ hsw]
 refine wpAny_bind (wpAny_standAt (wpAny_bind ?_))
 show wpAny _ X.A (do let _ ← comprehension (.ListComp elt [⟨tg,iter,ifs,0⟩] scope pos) scope X.env (firstIterPos [⟨tg,iter,ifs,0⟩] pos) (newList []) false (eval iter X.env) (some (assign (.Name y py) X.env))) _ _ s
 have h:tLc wi g tt te (own.map (·.2)) σ H (fun x H1=>cH i x σ H1 D.nx):=h
 refine wpAny_bind (thn (qZ (Qf:=fun _ s'=>SP X pins D .next s') hc hN I hi ok hg ht he hs h fun L C s' m H' I' q hn f=>?_) fun _ s' hq=>wpAny_pure (wpAny_pure hq))
 show wpAny _ _ (assign (.Name y py) X.env (.ref L)) _ _ _
 refine wpAny_assign_Name (lp (v:=V.ref L) I' hN hy (.inl hyl) rfl (fun s2 I2 ⟨a,sb,ha⟩=>?_) (.inr hyl))
 obtain⟨f0,f1,f2,f3,f4,f5⟩:=f
 have haC:C≠a:=by
  rcases ha with z | z
  ·rw[z];exact f1
  ·exact fun e=>f4 y a z e.symm
 refine⟨m,hn.sameBut sb haC,fun h3 sb3=>?_⟩
 exact⟨_,H',I2.turned (t':=s2.toks) (fun b o hb e=>(sb3.2 b hb).trans e) f0 f1 f3 f4 f5,q⟩
theorem jh {elt:Expr}{gs:List Comprehension}{scope:Scope}{pos py:Pos}{y:Str}{l:Nat}{env:Env} (hk:env.scope.kind=.function) (hy:env.scope.names.lookup y=some .local) (hl:(py.line==pos.line)=true)
  (ha:(scope.names.any fun (n,k)=>n==y&&(k==.local || k==.cell))=false):swapsWith (.ListComp elt gs scope pos) (some (.Name y py)) l env=pure true:=by
 have ky:env.kindOf y=some .local := hy
 have hb:env.blockKind=.function:=by unfold Env.blockKind;rw[hk];rfl
 unfold swapsWith
 simp only[hb,ky,ha,Expr.pos,hl]
 rfl
end
theorem dE {K:PySem.W.Frag}{a:Addr}{xs:List V}{g:TG}{tt:TT}{te:TE}{vs:List Nat}{σ:St}{H1:Hp}{D:Addr}{Qd:Hp->Prop} (Pv:Nat->Hp->Prop) (h0:Pv 0 (upd H1 D (.lst []))) (hl:∀i H,i<=xs.length->Pv i H->SqL K H a xs)
  (hs:∀i x H,xs[i]?=some x->Pv i H->g x (wipe σ vs) H fun σ2 H2=>wipe σ2 vs=wipe σ vs/\tt σ2 H2 fun b H3 =>
   if b=true then te σ2 H3 fun y H4=>∃acc,H4 D=some (.lst acc)/\acc.length<sizeLine/\Pv (i+1) (upd H4 D (.lst (acc++[y]))) else Pv (i+1) H3) (hd:∀H,Pv xs.length H->Qd H) :
  ∃W:Nat->Nat->Hp->Prop,(∃m,W 0 m (upd H1 D (.lst [])))/\∀i m H,W i m H ->
   ((Itl K a).stop i H/\Qd H)∨((Itl K a).go i H/\∃Nx:Hp->Prop,(∀H',Nx H'->∃m',m'<m/\W (i+1) m' H')/\∀x H',(Itl K a).yld i H x H'->g x (wipe σ vs) H' fun σ2 H2=>wipe σ2 vs=wipe σ vs/\tt σ2 H2 fun b H3 =>
    if b=true then te σ2 H3 fun y H4=>∃acc,H4 D=some (.lst acc)/\acc.length<sizeLine/\Nx (upd H4 D (.lst (acc++[y]))) else Nx H3):=by
 refine⟨fun i m H=>m=xs.length-i/\i<=xs.length/\Pv i H,⟨xs.length,by simp,Nat.zero_le _,h0⟩,?_⟩
 rintro i m H ⟨rfl,hi,p⟩
 have q:=hl i H hi p
 by_cases hlt:i<xs.length
 ·refine .inr ⟨⟨xs,xs[i],q,by simp[hlt]⟩,Pv (i+1),fun H' p'=>⟨xs.length-(i+1),by omega,rfl,hlt,p'⟩,fun x H' y=>?_⟩
  obtain⟨e,y⟩:=y
  subst e
  exact hs i x _ (y xs q) p
 ·have e:i=xs.length:=by omega
  subst e
  exact .inl ⟨⟨xs,q,Nat.le_refl _⟩,hd H p⟩
theorem yD {K:PySem.W.Frag}{a:Addr}{xs:List V}{g:TG}{tt:TT}{te:TE}{vs:List Nat}{σ:St}{H1:Hp}{D:Addr}{Qd:Hp->Prop} (Pv:Nat->Hp->Prop) (h0:Pv 0 (upd H1 D (.lst []))) (hl:∀i H,i<=xs.length->Pv i H->SqT K H a xs)
  (hs:∀i x H,xs[i]?=some x->Pv i H->g x (wipe σ vs) H fun σ2 H2=>wipe σ2 vs=wipe σ vs/\tt σ2 H2 fun b H3 =>
   if b=true then te σ2 H3 fun y H4=>∃acc,H4 D=some (.lst acc)/\acc.length<sizeLine/\Pv (i+1) (upd H4 D (.lst (acc++[y]))) else Pv (i+1) H3) (hd:∀H,Pv xs.length H->Qd H) :
  ∃W:Nat->Nat->Hp->Prop,(∃m,W 0 m (upd H1 D (.lst [])))/\∀i m H,W i m H ->
   ((Itt K a).stop i H/\Qd H)∨((Itt K a).go i H/\∃Nx:Hp->Prop,(∀H',Nx H'->∃m',m'<m/\W (i+1) m' H')/\∀x H',(Itt K a).yld i H x H'->g x (wipe σ vs) H' fun σ2 H2=>wipe σ2 vs=wipe σ vs/\tt σ2 H2 fun b H3 =>
    if b=true then te σ2 H3 fun y H4=>∃acc,H4 D=some (.lst acc)/\acc.length<sizeLine/\Nx (upd H4 D (.lst (acc++[y]))) else Nx H3):=by
 refine⟨fun i m H=>m=xs.length-i/\i<=xs.length/\Pv i H,⟨xs.length,by simp,Nat.zero_le _,h0⟩,?_⟩
 rintro i m H ⟨rfl,hi,p⟩
 have q:=hl i H hi p
 by_cases hlt:i<xs.length
 ·refine .inr ⟨⟨xs,xs[i],q,by simp[hlt]⟩,Pv (i+1),fun H' p'=>⟨xs.length-(i+1),by omega,rfl,hlt,p'⟩,fun x H' y=>?_⟩
  obtain⟨e,y⟩:=y
  subst e
  exact hs i x _ (y xs q) p
 ·have e:i=xs.length:=by omega
  subst e
  exact .inl ⟨⟨xs,q,Nat.le_refl _⟩,hd H p⟩
section
variable {prog:Program}{w:World}{A:Around}{R:Result->Shared->Prop}{s:Shared}{elt t0 i0 t1 i1:Expr}{ifs0 ifs1:List Expr}{scope:Scope}{pos:Pos}{it acc:Value}{env:Env}
end
section
variable {X:Cx}
end
section
variable {κ:Type} [DecidableEq κ]
def bN (kvs:List (κ×V)) (k:κ):Option V:=(kvs.find? fun kv=>decide (kv.1=k)).map (·.2)
def dA (kvs:List (κ×V)) (k:κ) (v:V):List (κ×V) :=
 if (kvs.any fun kv=>decide (kv.1=k))=true then kvs.map (fun kv=>if kv.1=k then (kv.1,v) else kv) else kvs++[(k,v)]
theorem t7 {k:κ}:bN ([]:List (κ×V)) k=none:=rfl
theorem bu {p:κ×V}{r:List (κ×V)}{k:κ} (e:p.1=k):bN (p::r) k=some p.2:=by simp[bN,List.find?_cons,e]
theorem bw {p:κ×V}{r:List (κ×V)}{k:κ} (e:¬p.1=k):bN (p::r) k=bN r k:=by simp[bN,List.find?_cons,e]
theorem bX (k:κ):∀kvs:List (κ×V),(kvs.any fun kv=>decide (kv.1=k))=(bN kvs k).isSome
 | []=>rfl
 | p::r=>by
  rw[List.any_cons]
  by_cases e:p.1=k
  ·simp only[bu e,decide_eq_true e,Bool.true_or,Option.isSome_some]
  ·rw[bw e,decide_eq_false e,Bool.false_or];exact bX k r
theorem nb (k j:κ) (y:V):∀kvs:List (κ×V),bN (kvs.map fun kv=>if kv.1=k then (kv.1,y) else kv) j=(bN kvs j).map fun x=>if j=k then y else x
 | []=>rfl
 | p::r=>by
  have ih:=nb k j y r
  rw[List.map_cons]
  by_cases h:p.1=k
  ·rw[if_pos h]
   by_cases e:p.1=j
   ·rw[bu (p:=(p.1,y)) e,bu e,Option.map_some,if_pos (e.symm.trans h)]
   ·rw[bw (p:=(p.1,y)) e,bw e,ih]
  ·rw[if_neg h]
   by_cases e:p.1=j
   ·rw[bu (p:=p) e,bu e,Option.map_some,if_neg (fun z=>h (e.trans z))]
   ·rw[bw (p:=p) e,bw e,ih]
theorem ll (k j:κ) (y:V):∀kvs:List (κ×V),bN kvs k=none->bN (kvs++[(k,y)]) j=if j=k then some y else bN kvs j
 | [],_=>by
  by_cases e:k=j
  ·rw[if_pos e.symm];exact bu (p:=(k,y)) e
  ·rw[if_neg (fun z=>e z.symm)];exact bw (p:=(k,y)) e
 | p::r,hn=>by
  rw[List.cons_append]
  have hk:¬p.1=k:=fun z=>by rw[bu z] at hn;cases hn
  rw[bw hk] at hn
  have ih:=ll k j y r hn
  by_cases e:p.1=j
  ·rw[bu e,bu e,if_neg (fun z=>hk (e.trans z))]
  ·rw[bw e,bw e,ih]
theorem m9 (kvs:List (κ×V)) (k j:κ) (y:V):bN (dA kvs k y) j=if j=k then some y else bN kvs j:=by
 unfold dA
 by_cases a:(kvs.any fun kv=>decide (kv.1=k))=true
 ·rw[if_pos a,nb]
  rw[bX] at a
  by_cases e:j=k
  ·obtain⟨x,hx⟩:=Option.isSome_iff_exists.mp a
   rw[if_pos e,e,hx,Option.map_some,if_pos rfl]
  ·rw[if_neg e]
   cases bN kvs j with
   | none=>rfl
   | some x=>rw[Option.map_some,if_neg e]
 ·rw[if_neg a]
  refine ll k j y kvs ?_
  rw[bX] at a
  cases q:bN kvs k with
  | none=>rfl
  | some x=>rw[q] at a;exact (a rfl).elim
theorem d7 (kvs:List (κ×V)) (k:κ) (v:V):(dA kvs k v).length<=kvs.length+1:=by
 unfold dA
 split
 ·rw[List.length_map];omega
 ·rw[List.length_append,List.length_cons,List.length_nil];omega
theorem uJ {kvs:List (κ×V)}{k:κ} (v:V) (h:bN kvs k=none):dA kvs k v=kvs++[(k,v)]:=by
 unfold dA
 rw[bX,h]
 exact if_neg (by decide)
theorem RelO.isSome_eq {o:Option V}{u:Option Value} (r:RelO o u):o.isSome=u.isSome:=by
 cases o with
 | none=>cases u with
  | none=>rfl
  | some _=>exact (show False from r).elim
 | some _=>cases u with
  | none=>exact (show False from r).elim
  | some _=>rfl
theorem RelO.getD {o:Option V}{u:Option Value}{d:V}{d':Value} (r:RelO o u) (rd:RelV d d'):RelV (o.getD d) (u.getD d'):=by
 cases o with
 | none=>cases u with
  | none=>exact rd
  | some _=>exact (show False from r).elim
 | some _=>cases u with
  | none=>exact (show False from r).elim
  | some _=>exact r
theorem KV.val {kvs:List (κ×V)}{vs:List (κ×Value)} (r:KV kvs vs) (k:κ):RelO (bN kvs k) (valueAt vs k):=by
 unfold KV at r
 induction r with
 | nil=>exact True.intro
 | @cons p q ps qs h t ih =>
  obtain⟨h1,h2⟩:=h
  by_cases e:p.1=k
  ·have e':q.1=k:=h1.symm.trans e
   have b:valueAt (q::qs) k=some q.2:=by simp[valueAt,List.find?_cons,e']
   rw[bu e,b];exact h2
  ·have e':¬q.1=k:=fun z=>e (h1.trans z)
   have b:valueAt (q::qs) k=valueAt qs k:=by simp[valueAt,List.find?_cons,e']
   rw[bw e,b];exact ih
theorem KV.any {kvs:List (κ×V)}{vs:List (κ×Value)} (r:KV kvs vs) (k:κ):(kvs.any fun kv=>decide (kv.1=k))=vs.any fun kv=>decide (kv.1=k):=by
 unfold KV at r
 induction r with
 | nil=>rfl
 | cons h t ih=>rw[List.any_cons,List.any_cons,ih,h.1]
theorem KV.repl {kvs:List (κ×V)}{vs:List (κ×Value)} (r:KV kvs vs) (k:κ) {y:V}{u:Value} (ry:RelV y u) :
  KV (kvs.map fun kv=>if kv.1=k then (kv.1,y) else kv) (vs.map fun kv=>if kv.1=k then (kv.1,u) else kv):=by
 unfold KV at r ⊢
 induction r with
 | nil=>exact .nil
 | @cons p q ps qs h t ih =>
  rw[List.map_cons,List.map_cons]
  refine .cons ?_ ih
  obtain⟨h1,h2⟩:=h
  by_cases e:p.1=k
  ·rw[if_pos e,if_pos (h1.symm.trans e)];exact⟨h1,ry⟩
  ·rw[if_neg e,if_neg (fun z=>e (h1.trans z))];exact⟨h1,h2⟩
theorem KV.put {kvs:List (κ×V)}{vs:List (κ×Value)} (r:KV kvs vs) (k:κ) {y:V}{u:Value} (ry:RelV y u):KV (dA kvs k y) (stored vs k u):=by
 unfold dA stored
 rw[r.any k]
 by_cases e:(vs.any fun kv=>decide (kv.1=k))=true
 ·rw[if_pos e,if_pos e];exact r.repl k ry
 ·rw[if_neg e,if_neg e];exact Paired.snoc r ⟨rfl,ry⟩
theorem KV.keys {kvs:List (κ×V)}{vs:List (κ×Value)} (r:KV kvs vs):kvs.map (·.1)=vs.map (·.1):=by
 unfold KV at r
 induction r with
 | nil=>rfl
 | cons h t ih=>rw[List.map_cons,List.map_cons,ih,h.1]
theorem KV.length {kvs:List (κ×V)}{vs:List (κ×Value)} (r:KV kvs vs):kvs.length=vs.length:=Paired.length r
end
theorem rb {P:Program}{w:World}{k:Key}{u:Value} (r:RelV (kV k) u):(bf P w).is k u=true:=by
 cases k with
 | inl i=>obtain⟨t,e⟩:=(show ∃t,u=Value.int i t from r);subst e;exact og P w i t
 | inr x=>obtain⟨t,e⟩:=(show ∃t,u=Value.str x t from r);subst e;exact oa P w x t
theorem lO {P:Program}{w:World}:∀{ks:List Key}{us:List Value},Vals (ks.map kV) us->ItemsAre (bf P w) ks us
 | [],_,r=>by rw[List.map_nil] at r;cases r;exact .nil
 | k::ks,_,r=>by
  rw[List.map_cons] at r
  cases r with
  | cons h t=>exact .cons (rb h) (lO t)
abbrev KT (H:Hp):List (List Key×V)->List (List Key×Addr×Value)->Prop:=Paired fun p q=>p.1=q.1/\H q.2.1=some (.tup (p.1.map kV))/\RelV p.2 q.2.2
theorem KT.val {H:Hp}{kvs:List (List Key×V)}{xs:List (List Key×Addr×Value)} (r:KT H kvs xs) (k:List Key):RelO (bN kvs k) ((atKey xs k).map (·.2)):=by
 induction r with
 | nil=>exact True.intro
 | @cons p q ps qs h t ih =>
  obtain⟨h1,_,h2⟩:=h
  by_cases e:p.1=k
  ·have e':q.1=k:=h1.symm.trans e
   have b:atKey (q::qs) k=some q.2:=by simp[atKey,List.find?_cons,e']
   rw[bu e,b];exact h2
  ·have e':¬q.1=k:=fun z=>e (h1.trans z)
   have b:atKey (q::qs) k=atKey qs k:=by simp[atKey,List.find?_cons,e']
   rw[bw e,b];exact ih
theorem KT.repl {H:Hp}{kvs:List (List Key×V)}{xs:List (List Key×Addr×Value)} (r:KT H kvs xs) (k:List Key) {y:V}{u:Value} (ry:RelV y u) :
  KT H (kvs.map fun kv=>if kv.1=k then (kv.1,y) else kv) (xs.map (putAt k u)):=by
 induction r with
 | nil=>exact .nil
 | @cons p q ps qs h t ih =>
  rw[List.map_cons,List.map_cons]
  refine .cons ?_ ih
  obtain⟨h1,h2,h3⟩:=h
  unfold putAt
  by_cases e:p.1=k
  ·rw[if_pos e,if_pos (h1.symm.trans e)];exact⟨h1,h2,ry⟩
  ·rw[if_neg e,if_neg (fun z=>e (h1.trans z))];exact⟨h1,h2,h3⟩
theorem KT.put {H:Hp}{kvs:List (List Key×V)}{xs:List (List Key×Addr×Value)} (r:KT H kvs xs) (k:List Key) {b:Addr}{y:V}{u:Value} (hb:H b=some (.tup (k.map kV))) (ry:RelV y u) :
  KT H (dA kvs k y) (storedH xs k b u):=by
 have e:(kvs.any fun kv=>decide (kv.1=k))=(atKey xs k).isSome:=by
  rw[bX,(r.val k).isSome_eq,Option.isSome_map]
 unfold dA storedH
 rw[e]
 by_cases q:(atKey xs k).isSome=true
 ·rw[if_pos q,if_pos q];exact r.repl k ry
 ·rw[if_neg q,if_neg q];exact Paired.snoc r ⟨rfl,hb,ry⟩
theorem KT.keeps {H H':Hp}{kvs:List (List Key×V)}{xs:List (List Key×Addr×Value)} (r:KT H kvs xs) (ht:∀b ys,H b=some (.tup ys)->H' b=some (.tup ys)):KT H' kvs xs :=
 Paired.mapP r fun _ _ z=>⟨z.1,ht _ _ z.2.1,z.2.2⟩
section
variable {P:Program}{w:World}{H:Hp}{h:Heap}{a:Addr}
theorem xH {u:HO} (ok:HOk P w H h) (e:Rd H a u):ObjOk P w H h a u:=e.ok ok
theorem oQ {kvs:List (Key×V)} (ok:HOk P w H h) (e:Rd H a (.dK kvs)):kvs.length<=sizeLine/\(a==sysModules)=false/\∃vs,KV kvs vs/\h.DictOf (bf P w) a vs :=
 show ObjOk P w H h a (.dK kvs) from xH ok e
theorem zJ {kvs:List (Key×V)} (ok:HOk P w H h) (e:H a=some (.dK kvs)):kvs.length<=sizeLine/\(a==sysModules)=false/\∃vs,KV kvs vs/\h.DictOf (bf P w) a vs:=oQ ok (.inl e)
theorem mP {ks:List Key} (ok:HOk P w H h) (e:H a=some (.tup (ks.map kV))):(tupleKind (bf P w)).is h ks a:=by
 obtain⟨_,its,r,o,h1,h2,⟨n,h3⟩,_⟩:=(show ObjOk P w H h a (.tup (ks.map kV)) from ok a _ e)
 exact⟨o,its.toArray,n,h1,h2,h3,by simpa using lO r⟩
theorem oN {kvs:List (List Key×V)} (ok:HOk P w H h) (e:Rd H a (.dT kvs)):kvs.length<=sizeLine/\(a==sysModules)=false /\
  ∃xs,KT H kvs xs/\h.DictOfH (tupleKind (bf P w)) a xs:=by
 obtain⟨z,y,xs,r,o,es,ep,h1,h2,h3,h4,h5⟩:=(show ObjOk P w H h a (.dT kvs) from xH ok e)
 refine⟨z,y,xs,r,o,es,ep,h1,h2,h3,h4,fun x hx=>?_,h5⟩
 have all:∀{l:List (List Key×V)}{m:List (List Key×Addr×Value)},KT H l m->∀x∈m,(tupleKind (bf P w)).is h x.1 x.2.1:=by
  intro l m q
  induction q with
  | nil=>intro x hx;exact nomatch hx
  | @cons p q ps qs hq t ih =>
   intro x hx
   rcases List.mem_cons.mp hx with e | hx
   ·subst e
    exact mP ok (by rw[← hq.1];exact hq.2.1)
   ·exact ih x hx
 exact all r x hx
theorem zH {kvs:List (List Key×V)} (ok:HOk P w H h) (e:H a=some (.dT kvs)):kvs.length<=sizeLine/\(a==sysModules)=false /\
  ∃xs,KT H kvs xs/\h.DictOfH (tupleKind (bf P w)) a xs:=oN ok (.inl e)
end
def DGet (H:Hp) (a:Addr) (y:V) (r:Option V):Prop :=
 (∃kvs k,Rd H a (.dK kvs)/\y=kV k/\r=bN kvs k)∨∃kvs k b,Rd H a (.dT kvs)/\y=.ref b/\H b=some (.tup (k.map kV))/\r=bN kvs k
def DPut (H:Hp) (a:Addr) (y v:V) (H':Hp):Prop :=
 (∃kvs k,H a=some (.dK kvs)/\y=kV k/\kvs.length<sizeLine/\H'=upd H a (.dK (dA kvs k v))) ∨
 ∃kvs k b,H a=some (.dT kvs)/\y=.ref b/\H b=some (.tup (k.map kV))/\kvs.length<sizeLine/\H'=upd H a (.dT (dA kvs k v))
theorem DGet.k {H:Hp}{a:Addr}{kvs:List (Key×V)}{k:Key} (e:H a=some (.dK kvs)):DGet H a (kV k) (bN kvs k):=.inl ⟨kvs,k,.inl e,rfl,rfl⟩
theorem DPut.k {H:Hp}{a:Addr}{kvs:List (Key×V)}{k:Key}{v:V} (e:H a=some (.dK kvs)) (hl:kvs.length<sizeLine):DPut H a (kV k) v (upd H a (.dK (dA kvs k v))):=.inl ⟨kvs,k,e,rfl,hl,rfl⟩
section
variable {X:Cx}{pins:List (Addr×Obj)}{σ:St}{H:Hp}{s:Shared}{a:Addr}{y v:V}{u r:Value}{o:Option V}{A:Around}{E:Value->Shared->Prop}
theorem Inv.big (I:Inv X pins σ H s):sysModules<s.heap.objs.size:=by
 have h:mainGlobals<s.heap.objs.size:=(I.mod.glob.keeps I.bk).lt
 exact Nat.lt_trans (by decide) h
theorem tP {Q:Value->Shared->Prop} (hu:A.units+1<cLine) (I:Inv X pins σ H s) (g:DGet H a y (some v)) (ry:RelV y u) (h:∀w' s',Inv X pins σ H s'->RelV v w'->Q w' s') :
  wpAny (model X.prog X.w) A (getItem (.ref a) u) Q E s:=by
 rcases g with ⟨kvs,k,e,ey,l⟩ | ⟨kvs,k,b,e,ey,eb,l⟩
 ·subst ey
  obtain⟨z,hd,vs,rel,dd⟩:=oQ I.hok e
  obtain⟨w',hw,rw'⟩:=RelO.some_of (v:=v) (o:=valueAt vs k) (by rw[l];exact rel.val k)
  exact wpAny_getItem_of (rb ry) dd.mapOf hw (h w' _ (I.tok _) rw')
 ·subst ey
  cases (show u=Value.ref b from ry)
  obtain⟨z,hd,xs,rel,dd⟩:=oN I.hok e
  obtain⟨w',hw,rw'⟩:=RelO.some_of (v:=v) (o:=(atKey xs k).map (·.2)) (by rw[l];exact rel.val k)
  obtain⟨p,hp,hp2⟩:=Option.map_eq_some_iff.mp hw
  refine wpAny_getItem_heap (tupleKind_room_in1 hu) (mP I.hok eb) dd hp ?_
  rw[hp2]
  exact h w' _ (I.tok _) rw'
theorem rD {h':Heap}{t':Nat}{ob:HO} (I:Inv X pins σ H s) (mu:Mut (H a)) (hs:Heap.SameBut a s.heap h') (he:∃q,h'.get? a=some q) (new:ObjOk X.prog X.w (upd H a ob) h' a ob) :
  Inv X pins σ (upd H a ob) {s with heap:=h',toks:=t'} :=
 I.write (x:=a) (e:=a) mu (.inl rfl) (fun b q hb z=>(hs.2 b hb).trans z) he new
theorem yP {P:Program}{w:World}{H':Hp}{h':Heap}{kvs:List (Key×V)}{vs:List (Key×Value)} (z:kvs.length<=sizeLine) (hd:(a==sysModules)=false) (rel:KV kvs vs) (dd:h'.DictOf (bf P w) a vs) :
  ObjOk P w H' h' a (.dK kvs):=⟨z,hd,vs,rel,dd⟩
theorem tO {H':Hp}{Q:Unit->Shared->Prop} (hu:A.units+1<cLine) (I:Inv X pins σ H s) (g:DPut H a y v H') (ry:RelV y u) (rv:RelV v r) (h:∀s',Inv X pins σ H' s'->Q () s') :
  wpAny (model X.prog X.w) A (setItem (.ref a) u r) Q E s:=by
 rcases g with ⟨kvs,k,e,ey,l,eH⟩ | ⟨kvs,k,b,e,ey,eb,l,eH⟩
 ·subst ey eH
  obtain⟨z,hd,vs,rel,dd⟩:=zJ I.hok e
  have hz:vs.length<=sizeLine:=by rw[← rel.length];exact z
  have hl:(dA kvs k v).length<=sizeLine:=by have:=d7 kvs k v;omega
  refine wpAny_setItem_pairs (hsz:=hz) (rb ry) dd fun h' dd' hs=>h _ ?_
  have he:∃q,h'.get? a=some q:=let ⟨q,_,_,hq,_⟩:=dd';⟨q,hq⟩
  exact rD I (by rw[e];exact True.intro) hs he (yP hl hd (rel.put k rv) dd')
 ·subst ey eH
  cases (show u=Value.ref b from ry)
  obtain⟨z,hd,xs,rel,dd⟩:=zH I.hok e
  have hz:xs.length<=sizeLine:=by rw[← Paired.length rel];exact z
  have hl:(dA kvs k v).length<=sizeLine:=by have:=d7 kvs k v;omega
  refine wpAny_setItem_heap (hsz:=hz) (tupleKind_room_in1 hu) (mP I.hok eb) dd fun h' dd' hs=>h _ ?_
  obtain⟨q,es,ep,hq,h2,h3,h4,_,h5⟩:=dd'
  refine rD I (by rw[e];exact True.intro) hs ⟨q,hq⟩ ⟨hl,hd,_,(rel.put k eb rv).keeps fun c ys ec=>?_,q,es,ep,hq,h2,h3,h4,h5⟩
  rw[ai (cT ec e (fun z=>nomatch z))]
  exact ec
end
section
variable {X:Cx}{pins:List (Addr×Obj)}{σ:St}{H:Hp}{s:Shared}{a:Addr}{kvs:List (Key×V)}{k:Key}{u:Value}{A:Around}{E:Value->Shared->Prop}
end
def zK (i:Expr):Prop:=∀ov iv,subscripted i false ov iv=operate [ov,iv] (getItem ov iv)
theorem wl {prog:Program}{w:World}{A:Around}{E:Value->Shared->Prop}{s:Shared}{env:Env}{value slice:Expr}{pos:Pos}{T id:String}{Q:Value->Shared->Prop}
  (hl:typeLookup (.type T) "__getitem__" = pure (some (.builtin id))) (hs:zK slice)
  (h:wpAny (model prog w) A (eval value env) (fun o s₁=>wpAny (model prog w) A (eval slice env) (fun i s₂=>s₂.TypeIs o T/\wpAny (model prog w) A (getItem o i) Q E s₂) E s₁) E s) :
  wpAny (model prog w) A (eval (.Subscript value slice pos) env) Q E s:=by
 refine Subscript_ (wpAny_mono h (fun o s₁ h₁=>wpAny_mono h₁ (fun i s₂ h₂=>?_) fun _ _ x=>x) fun _ _ x=>x)
 obtain⟨hT,h₂⟩:=h₂
 unfold subscriptTail
 refine wpAny_bind ?_
 rw[getitemInPython_of_ne hT.not_modules]
 refine wpAny_bind (wpAny_specialOf hT hl ?_)
 have fin:wpAny (model prog w) A (subscripted slice false o i) (fun r s₃=>wpAny (model prog w) A (letTemporaryGo value o r >>= fun _=>pure r) Q E s₃) E s₂:=by
  rw[hs o i]
  exact wpAny_operating (wpAny_mono h₂ (fun r s₃ h₃=>wpAny_bind (wpAny_letTemporaryGo (wpAny_pure h₃))) fun _ _ x=>x)
 first
  | exact wpAny_pure (wpAny_bind fin)
  | exact wpAny_bind (wpAny_pure (wpAny_bind fin))
  | exact wpAny_bind fin
theorem oR {X:Cx}{pins:List (Addr×Obj)}{σ:St}{H:Hp}{s:Shared}{a:Addr}{y:V}{o:Option V} (I:Inv X pins σ H s) (g:DGet H a y o):s.TypeIs (.ref a) "dict":=by
 rcases g with ⟨kvs,k,e,_,_⟩ | ⟨kvs,k,b,e,_,_,_⟩
 ·obtain⟨_,_,vs,_,dd⟩:=oQ I.hok e
  exact dd.typeIs
 ·obtain⟨_,_,xs,_,dd⟩:=oN I.hok e
  exact dd.typeIs
def y9 (td ty:TE):TE:=fun σ H Q=>td σ H fun x H1=>ty σ H1 fun y H2=>∃a v,x=.ref a/\DGet H2 a y (some v)/\Q v H2
def ze (td ty tv:TE):TS:=fun D σ H=>tv σ H fun v H1=>td σ H1 fun x H2=>ty σ H2 fun y H3=>∃a H4,x=.ref a/\DPut H3 a y v H4/\D.nx σ H4
section
variable {X:Cx}{o i e value:Expr}{pos pos' tpos:Pos}{td ty tv:TE}
theorem qO (hu:X.A.units+1<cLine) (ho:PE X o td) (hi:PE X i ty) (hs:zK i):PE X (.Subscript o i pos) (y9 td ty):=by
 intro pins s σ H Q I h
 refine wl F.slot_dict_getitem.lookup hs (thn (ho pins s σ H _ I h) fun u s1 ⟨x,H1,I1,rx,q1⟩=>thn (hi pins s1 σ H1 _ I1 q1) fun iv s2 ⟨y,H2,I2,ry,a,v,ex,g,q2⟩=>?_)
 subst ex
 obtain rfl:u=Value.ref a:=rx
 exact⟨oR I2 g,tP hu I2 g ry fun w' s3 I3 rw'=>⟨v,H2,I3,rw',q2⟩⟩
theorem qK (hu:X.A.units+1<cLine) (ho:PE X o td) (hi:PE X i ty) (hv:PE X value tv) (hs:swapsWith value (some (.Subscript o i pos')) pos.line X.env=pure false) :
  PS X (.Assign [.Subscript o i pos'] value pos) (ze td ty tv):=by
 intro pins s σ H D I h
 refine wpAny_Assign_Subscript (thn (hv pins s σ H _ I h) fun r s1 ⟨v,H1,I1,rv,q1⟩=>thn (ho pins s1 σ H1 _ I1 q1) fun u s2 ⟨x,H2,I2,rx,q2⟩=>thn (hi pins s2 σ H2 _ I2 q2) fun iv s3 ⟨y,H3,I3,ry,a,H4,ex,g,q3⟩=>?_) hs
 subst ex
 obtain rfl:u=Value.ref a:=rx
 exact tO hu I3 g ry rv fun s4 I4=>⟨σ,H4,I4,q3⟩
end
theorem vO {P:Program}{w:World}{H:Hp} (h:Heap) (hb:sysModules<h.objs.size):ObjOk P w H (h.push {cls:=.type "dict",data:=.dict #[]}) h.objs.size (.dK []) :=
 ⟨Nat.zero_le _,beq_eq_false_iff_ne.mpr (Ne.symm (Nat.ne_of_lt hb)),[],.nil,Heap.DictOf.new h⟩
def xW:TE:=fun _ H Q=>∀p,H p=none->Q (.ref p) (upd H p (.dK []))
section
variable {X:Cx}{pos:Pos}
theorem gu:PE X (.Dict [] [] pos) xW:=fun pins s σ H Q I h =>
 wpAny_Dict_empty ⟨.ref s.heap.objs.size,_,I.laid (a:=s.heap.objs.size) (o:=.dK []) (t':=s.toks) (fun _ _ q=>Heap.get?_push_of_some _ q) (Nat.le_refl _) (vO s.heap I.big),rfl,h _ (I.hok.fresh (Nat.le_refl _))⟩
end
structure M2 (X:Cx) (o:Expr) (m:Str) (apos:Pos) (e f:Expr) (cpos:Pos):Prop where
 base:attributeBase o m X.env (eval o X.env)=eval o X.env
 few:((backTo cpos (starEach [e,f] X.env)).all (fun x=>!x.1)&&(backToKw cpos (keywordEach [] X.env)).all (fun x=>x.1.isSome)
  && decide (([e,f]:List Expr).length+([]:List Keyword).length+(if ([]:List Keyword).isEmpty then 0 else 1)<30))=true
 line:(apos.endLine==cpos.line)=true
 trees:backTo cpos (starEach [e,f] X.env)=[(false,eval e X.env),(false,eval f X.env)]
def IsD (H:Hp) (a:Addr):Prop:=(∃kvs,Rd H a (.dK kvs))∨∃kvs,Rd H a (.dT kvs)
theorem yJ {X:Cx}{pins:List (Addr×Obj)}{σ:St}{H:Hp}{s:Shared}{a:Addr} (I:Inv X pins σ H s) (d:IsD H a) :
  s.TypeIs (.ref a) "dict"/\(∀b,Value.ref a=.ref b->∃ob,s.heap.get? b=some ob/\ob.dict=none)/\(a==sysModules)=false:=by
 rcases d with ⟨kvs,e⟩ | ⟨kvs,e⟩
 ·obtain⟨_,hd,vs,_,dd⟩:=oQ I.hok e
  refine⟨dd.typeIs,fun b q=>?_,hd⟩
  cases q
  obtain⟨ob,_,_,h1,h2,_⟩:=dd
  exact⟨ob,h1,h2.2.1⟩
 ·obtain⟨_,hd,xs,_,dd⟩:=oN I.hok e
  refine⟨dd.typeIs,fun b q=>?_,hd⟩
  cases q
  obtain⟨ob,_,_,h1,h2,_⟩:=dd
  exact⟨ob,h1,h2.2.1⟩
section
variable {X:Cx}{pins:List (Addr×Obj)}{σ:St}{H:Hp}{s:Shared}{a:Addr}{y d:V}{u r:Value}{o:Option V}{A:Around}{E:Value->Shared->Prop}
theorem yQ {Q:Value->Shared->Prop} (hu:A.units+1<cLine) (I:Inv X pins σ H s) (g:DGet H a y o) (ry:RelV y u) (rd:RelV d r) (h:∀w' s',Inv X pins σ H s'->RelV (o.getD d) w'->Q w' s') :
  wpAny (model X.prog X.w) A (call (.builtin "dict.get") [.ref a,u,r]) Q E s:=by
 rcases g with ⟨kvs,k,e,ey,l⟩ | ⟨kvs,k,b,e,ey,eb,l⟩
 ·subst ey
  obtain⟨z,hd,vs,rel,dd⟩:=oQ I.hok e
  refine call_meetsIn F.slot_dict_get dd.typeIs F.entry_dict_get (F.args_dict_get_3 _ _ _) (meets_dict_get_default (bf X.prog X.w) a (rb ry) hd r) ⟨_,dd.mapOf,h _ _ (I.tok _) ?_⟩
  rw[l]
  exact (rel.val k).getD rd
 ·subst ey
  cases (show u=Value.ref b from ry)
  obtain⟨z,hd,xs,rel,dd⟩:=oN I.hok e
  refine call_meetsIn F.slot_dict_get dd.typeIs F.entry_dict_get (F.args_dict_get_3 _ _ _) (meetsH_dict_get_default (tupleKind (bf X.prog X.w)) a b hd r) ⟨tupleKind_room_in1 hu,k,xs,mP I.hok eb,dd,h _ _ (I.tok _) ?_⟩
  rw[l]
  exact (rel.val k).getD rd
end
def xX (td ty tx:TE):TE:=fun σ H Q=>td σ H fun x H1=>∃a,x=.ref a/\IsD H1 a/\ty σ H1 fun y H2=>tx σ H2 fun z H3=>∃o,DGet H3 a y o/\Q (o.getD z) H3
section
variable {X:Cx}{o e f:Expr}{apos cpos:Pos}{td ty tx:TE}
theorem uR (hu:X.A.units+1<cLine) (ho:PE X o td) (he:PE X e ty) (hf:PE X f tx) (m:M2 X o "get" apos e f cpos):PE X (.Call (.Attribute o "get" apos) [e,f] [] cpos) (xX td ty tx):=by
 intro pins s σ H Q I h
 refine wpAny_Call_method m.base m.few m.line F.plainAttrs_dict F.slot_dict_get F.type_dict_get (thn (ho pins s σ H _ I h) fun u s1 ⟨x,H1,I1,rx,a,ex,d,q1⟩=>?_)
 subst ex
 obtain rfl:u=Value.ref a:=rx
 obtain⟨t1,t2,_⟩:=yJ I1 d
 refine⟨t1,t2,?_⟩
 rw[m.trees]
 refine Calls.callWith_builtin rfl (Calls.evalArgs_plain (Calls.spliced_cons (thn (he pins s1 σ H1 _ I1 q1) fun iv s2 ⟨y,H2,I2,ry,q2⟩ =>
  Calls.spliced_cons (thn (hf pins s2 σ H2 _ I2 q2) fun fv s3 ⟨z,H3,I3,rz,ov,g,q3⟩=>Calls.spliced_nil ?_))))
 exact yQ hu I3 g ry rz fun w' s4 I4 rw'=>⟨_,H3,I4,rw',q3⟩
end
section
variable {X:Cx}{pins:List (Addr×Obj)}{σ:St}{H:Hp}{s:Shared}{a:Addr}{kvs:List (Key×V)}{A:Around}{E:Value->Shared->Prop}
end
section
variable {X:Cx}{pins:List (Addr×Obj)}{σ:St}{H:Hp}{s:Shared}{a:Addr}{y:V}{u:Value}{A:Around}{E:Value->Shared->Prop}
end
section
variable {prog:Program}{w:World}{A:Around}{E:Value->Shared->Prop}
end
section
variable {X:Cx}
end
theorem kG:bootBuiltins "reversed" = some (.type "reversed"):=by decide +kernel
section
variable {X:Cx}{pins:List (Addr×Obj)}{σ:St}{H:Hp}{s:Shared}{h':Heap}
theorem Inv.turnedL {t':Nat}{ch:List Addr} (I:Inv X pins σ H s) (k:∀b o,b∉ch->s.heap.get? b=some o->h'.get? b=some o) (hf:∀b∈ch,FpOk X pins H b):Inv X pins σ H {s with heap:=h',toks:=t'}:=by
 have nit:∀b u,H b=some u->b∉ch:=fun b u e z=>by
  have q:=(hf b z).1
  rw[q] at e;cases e
 refine I.step (g':=s.gens) (d':=s.drawn) (ch:=ch) (fun b hb=>⟨(hf b hb).2.2.2.1,(hf b hb).2.1,(hf b hb).2.2.2.2.1,(hf b hb).2.2.2.2.2⟩) (fun b o _ _ hc e _=>k b o hc e) (fun b o _ _ hc e _=>⟨o.slots,k b o hc e⟩)
  (fun _ _ _ _ n=>n) (fun b o hc e=>⟨o,k b o hc e⟩) (fun _ _ e=>e) (fun _ _ _ e=>e) (fun b ps e=>⟨#[],by rw[e];simp⟩) (fun m hm=>?_) (fun b u e=>?_) I.bare
 ·obtain⟨o,es,ep,ho,r⟩:=hm
  exact⟨o,es,ep,k _ o (fun z=>(hf _ z).2.1 rfl) ho,r⟩
 ·refine (I.hok b u e).stay (fun c v hc q=>k c v ?_ q) (fun _ q=>q) fun _ _ q=>q
  rcases hc with z | z
  ·rw[z];exact nit b u e
  ·exact nit c _ z
theorem Inv.turnedNew {t':Nat}{ch:List Addr}{T:Addr}{ob:HO} (I:Inv X pins σ H s) (k:∀b o,b∉ch->s.heap.get? b=some o->h'.get? b=some o) (hf:∀b∈ch,FpOk X pins H b) (hT:s.heap.objs.size<=T)
  (new:ObjOk X.prog X.w (upd H T ob) h' T ob):Inv X pins σ (upd H T ob) {s with heap:=h',toks:=t'}:=by
 have hn:H T=none:=I.hok.fresh hT
 have nit:∀b u,H b=some u->b∉ch:=fun b u e z=>by
  have q:=(hf b z).1
  rw[q] at e;cases e
 refine I.step (g':=s.gens) (d':=s.drawn) (ch:=ch) (fun b hb=>⟨(hf b hb).2.2.2.1,(hf b hb).2.1,(hf b hb).2.2.2.2.1,(hf b hb).2.2.2.2.2⟩) (fun b o _ _ hc e _=>k b o hc e) (fun b o _ _ hc e _=>⟨o.slots,k b o hc e⟩)
  (fun b o _ e n=>?_) (fun b o hc e=>⟨o,k b o hc e⟩) (fun b xs e=>?_) (fun b o u e=>?_) (fun b ps e=>⟨#[],?_⟩) (fun m hm=>?_) (fun b u e=>?_) I.bare
 ·rw[ai (Nat.ne_of_lt (Nat.lt_of_lt_of_le (Heap.lt_size e) hT))];exact n
 ·rw[ai (af e hn)];exact e
 ·rw[ai (af e hn)];exact e
 ·rw[ai (af e hn),e];simp
 ·obtain⟨o,es,ep,ho,r⟩:=hm
  exact⟨o,es,ep,k _ o (fun z=>(hf _ z).2.1 rfl) ho,r⟩
 ·by_cases hb:b=T
  ·subst hb
   rw[ac] at e
   cases e
   exact new
  ·rw[ai hb] at e
   refine (I.hok b u e).stay (fun c v hc q=>k c v ?_ q) (fun c q=>by rw[ai (af q hn)];exact q) fun c xs q=>by rw[ai (af q hn)];exact q
   rcases hc with z | z
   ·rw[z];exact nit b u e
   ·exact nit c _ z
end
section
variable {X:Cx}
theorem pB {tg:Expr}{pins:List (Addr×Obj)}{σ:St}{H:Hp}{s:Shared}{R:It->Hp->Prop}{J:It}{tn:Nat->Heap->Prop}{tk:Nat} (I:Inv X pins σ H s) (o:Obj)
  (T:Turn X.prog X.w X.K tg J [s.heap.objs.size] s.heap.objs.size tn) (st:tn 0 (s.heap.push o)) (q:R J H):PIE X pins σ tg R (.ref s.heap.objs.size) {s with heap:=s.heap.push o,toks:=tk}:=by
 refine⟨s.heap.objs.size,[s.heap.objs.size],tn,J,H,rfl,I.kept fun b ob e=>Heap.get?_push_of_some _ e,T,st,fun b hb=>?_,q⟩
 have e:b=s.heap.objs.size:=by simpa using hb
 subst e
 exact I.fpOk (Nat.le_refl _) (I.hok.fresh (Nat.le_refl _))
end
section
variable {X:Cx}{tg:Expr}
end
section
variable {X:Cx}{tg:Expr}
end
def Its (x:Str):It:=⟨fun i _=>i<x.cps.size,fun i H v H'=>H'=H/\∃c,x.cps[i]?=some c/\v=.str ⟨#[c]⟩,fun i _=>x.cps.size<=i⟩
theorem nc {P:Program}{w:World}{K:PySem.W.Frag}{tg:Expr} (it:Addr) (x:Str) (t:Tok) (ty:String) (hty:ty = "str_ascii_iterator"∨ty = "str_iterator") :
  Turn P w K tg (Its x) [it] it (fun i h=>h.IsStrIter it ty x t i) where
 mem:=by simp
 obj:=fun i h st b hb=>by
  have e:b=it:=by simpa using hb
  subst e
  obtain⟨o,e,c,d⟩:=st
  exact⟨o,e,fun v z=>by rw[d] at z;cases z⟩
 keep:=fun i h h' st k=>let ⟨o,ho,r⟩:=st;⟨o,k it (by simp) o ho,r⟩
 item:=by
  intro X hP hw hK hc i pins s σ H E I hf st hg
  subst hP hw hK
  obtain⟨f0,f1,f2,f3,f4,f5⟩:=hf it (by simp)
  have W:Walks X.prog X.w X.A it [it] [it] x.cps.size (SignAt x) (fun i h=>h.IsStrIter it ty x t i):=by
   rcases hty with e | e
   ·rw[e];exact Walks.strAscii (I.ok.hd hc) it x t
   ·rw[e];exact Walks.strWide (I.ok.hd hc) it x t
  have hno:["enumerate","zip","dict_itemiterator","dict_reverseitemiterator","odict_iterator","itertools.zip_longest","itertools.pairwise"].contains ty=false:=by
   rcases hty with e | e
   ·rw[e];decide
   ·rw[e];decide
  refine W.item i s _ _ hg st fun v h' tk hv st' kk=>?_
  obtain⟨c,u,hcx,rfl⟩:=hv
  have I1:Inv X pins σ H {s with heap:=h',toks:=tk}:=I.turned (fun b o hb e=>kk b o (by simpa using hb) e) f0 f1 f3 f4 f5
  obtain⟨oi,e,cc,dd⟩:=id st'
  exact⟨_,rfl,oz (s:={s with heap:=h',toks:=tk}) e cc dd hno ⟨.str ⟨#[c]⟩,H,I1,⟨u,rfl⟩,⟨rfl,c,hcx,rfl⟩,st',fun b hb=>(hf b hb).1⟩⟩
 done:=by
  intro X hP hw hK hc i pins s σ H E I hf st hg
  subst hP hw hK
  obtain⟨f0,f1,f2,f3,f4,f5⟩:=hf it (by simp)
  have hx:x.cps[i]?=none:=Array.getElem?_eq_none hg
  rcases hty with e | e
  ·rw[e] at st
   exact wpAny_pyNext_ascii_end (I.ok.hd hc) st hx fun h' eb=>⟨rfl,I.turned (t':=s.toks) (fun b o hb e=>eb b o hb e) f0 f1 f3 f4 f5⟩
  ·rw[e] at st
   exact wpAny_pyNext_wide_end (I.ok.hd hc) st hx fun h' eb=>⟨rfl,I.turned (t':=s.toks) (fun b o hb e=>eb b o hb e) f0 f1 f3 f4 f5⟩
 self:=fun A i s Q E st h=>by
  rcases hty with e | e
  ·rw[e] at st;exact wpAny_pyIter_striter_ascii st h
  ·rw[e] at st;exact wpAny_pyIter_striter_wide st h
def Af (te:TE):TI:=fun σ H R=>te σ H fun v H1=>∃x,v=.str x/\R (Its x) H1
theorem yh {X:Cx}{tg e:Expr}{te:TE} (he:PE X e te):PI X tg e (Af te):=by
 intro pins s σ H R I h
 refine thn (he pins s σ H _ I h) fun v s1 ⟨y,H1,I1,r1,x,ex,q⟩=>?_
 subst ex
 obtain⟨t,rfl⟩:=r1
 cases ha:x.cps.all (· < 128)
 ·exact wpAny_pyIter_wide ha (pB (tk:=s1.toks) I1 _ (nc _ x t "str_iterator" (.inr rfl)) ⟨_,Heap.get?_push_size _ rfl,rfl,rfl⟩ q)
 ·exact wpAny_pyIter_ascii ha (pB (tk:=s1.toks) I1 _ (nc _ x t "str_ascii_iterator" (.inl rfl)) ⟨_,Heap.get?_push_size _ rfl,rfl,rfl⟩ q)
section
variable {prog:Program}{w:World}{A:Around}{E:Value->Shared->Prop}{s:Shared}
end
section
variable {X:Cx}{pins:List (Addr×Obj)}{σ:St}{H:Hp}{s:Shared}{d:Addr}{o:Obj}
end
section
variable {P:Program}{w:World}{K:W.Frag}{tg:Expr}{d:Addr}{o:Obj}{es:Array DictEntry}{ep:Nat}
end
section
variable {X:Cx}{tg e:Expr}{td:TE}{apos cpos:Pos}
end
def Ite (K:W.Frag) (a:Addr):It :=
 ⟨fun i H=>∃(xs:List V) (x:V),SqL K H a xs/\xs[i]?=some x,fun i H v H'=>∃T x,v=.ref T/\H T=none/\H'=upd H T (.tup [.int (i:Nat),x])/\∀xs,SqL K H a xs->xs[i]?=some x,fun i H=>∃xs:List V,SqL K H a xs/\xs.length<=i⟩
theorem rO {P:Program}{w:World}{K:W.Frag}{elts:List Expr}{kk:Nat}{tpos:Pos} (a e it:Addr) :
  Turn P w K (.Tuple elts kk tpos) (Ite K a) [e,it] e (fun i h=>(∃old,IsEnum h e it ((i:Nat):Int) old)/\h.IsListIter it a i/\e≠it) where
 mem:=by simp
 obj:=fun i h st b hb=>by
  obtain⟨⟨old,he⟩,⟨o,ho,hc,hd⟩,_⟩:=st
  have e':b=e∨b=it:=by simpa using hb
  rcases e' with z | z
  ·rw[z];exact⟨_,he,fun v q=>nomatch q⟩
  ·rw[z];exact⟨o,ho,fun v q=>by rw[hd] at q;cases q⟩
 keep:=fun i h h' st k=>let ⟨⟨old,he⟩,hi,hne⟩:=st;⟨⟨old,k e (by simp) _ he⟩,hi.at fun o q=>k it (by simp) o q,hne⟩
 item:=by
  intro X hP hw hK hc i pins s σ H E I hf st hg
  subst hP hw hK
  obtain⟨⟨old,he⟩,hit,hne⟩:=st
  obtain⟨xs,x,hq,hx⟩:=hg
  obtain⟨its,rv,p,hz⟩:=I.list hq
  obtain⟨u,hu,ru⟩:=rv.get hx
  have hel:e<s.heap.objs.size:=Heap.lt_size he
  have hil:it<s.heap.objs.size:=by obtain⟨_,q,_⟩:=hit;exact Heap.lt_size q
  refine wpAny_pyNext_enum_item he hit p.isList (x:=u) (by simpa using hu) hne fun h' ho hit' hT hsz hk=>?_
  refine⟨_,rfl,wpAny_letOwnedTupleGo_enum (s:={s with heap:=h',toks:=s.toks+1}) ho fun h'' he' sb=>?_⟩
  have hT2:h''.get? s.heap.objs.size=some {cls:=.type "tuple",data:=.seq #[.int i s.toks,u]}:=(sb.2 _ (Nat.ne_of_gt hel)).trans hT
  have new:ObjOk X.prog X.w (upd H s.heap.objs.size (.tup [.int (i:Nat),x])) h'' s.heap.objs.size (.tup [.int (i:Nat),x]) :=
   ⟨by show 2<=sizeLine;decide,[.int i s.toks,u],.cons ⟨_,rfl⟩ (.cons ru .nil),⟨_,hT2,rfl,⟨_,rfl⟩,rfl⟩⟩
  have I1:Inv X pins σ (upd H s.heap.objs.size (.tup [.int (i:Nat),x])) {s with heap:=h'',toks:=s.toks+1} :=
   I.turnedNew (ch:=[e,it]) (fun b ob hb q=>(sb.2 b (fun z=>hb (by simp[z]))).trans (hk b ob (fun z=>hb (by simp[z])) (fun z=>hb (by simp[z])) q)) hf (Nat.le_refl _) new
  refine⟨.ref s.heap.objs.size,_,I1,rfl,⟨_,x,rfl,I.hok.fresh (Nat.le_refl _),rfl,fun ys hy=>by rw[I.list_inj hy hq];exact hx⟩,⟨⟨u,?_⟩,hit'.at fun o q=>(sb.2 it (Ne.symm hne)).trans q,hne⟩,fun b hb=>?_⟩
  ·have e1:((i+1:Nat):Int)=(i:Int)+1:=by omega
   rw[e1];exact he'
  ·have hb':b<s.heap.objs.size:=by
    have e':b=e∨b=it:=by simpa using hb
    rcases e' with z | z
    ·rw[z];exact hel
    ·rw[z];exact hil
   rw[ai (Nat.ne_of_lt hb')]
   exact (hf b hb).1
 done:=by
  intro X hP hw hK hc i pins s σ H E I hf st hg
  subst hP hw hK
  obtain⟨⟨old,he⟩,hit,hne⟩:=st
  obtain⟨xs,hq,hx⟩:=hg
  obtain⟨its,rv,p,hz⟩:=I.list hq
  obtain⟨f0,f1,f2,f3,f4,f5⟩:=hf it (by simp)
  have hl:=rv.length
  exact wpAny_pyNext_enum_end (I.ok.hd hc) he hit p.isList (by simp;omega) fun h' eb=>⟨rfl,I.turned (t':=s.toks) (fun b o hb q=>eb b o hb q) f0 f1 f3 f4 f5⟩
 self:=fun A i s Q E st h=>let ⟨⟨_,he⟩,_⟩:=st;wpAny_pyIter_enum he h
def zC (K:W.Frag) (ta:TA):TI:=fun σ H R=>ta σ H fun vs H1=>∃a xs,vs=[.ref a]/\SqL K H1 a xs/\R (Ite K a) H1
theorem jk {X:Cx}{e:Expr}{ta:TA}{p pos tpos:Pos}{elts:List Expr}{kk:Nat} (hg:Gl X "enumerate") (hm:X.mg "enumerate" = none) (ha:PA X [e] ta) (hs:starEach [e] X.env=[(false,eval e X.env)]:=by rfl) :
  PI X (.Tuple elts kk tpos) (.Call (.Name "enumerate" p) [e] [] pos) (zC X.K ta):=by
 intro pins s σ H R I h
 refine Call_ (d8 I hg hm boot_enumerate (PyProof.Rows.callWith_type1 (thn (ha pos pins s σ H _ I h) fun us s1 ⟨vs,H1,I1,r1,q1⟩=>?_) hs rfl))
 obtain⟨a,xs,ex,hq,q⟩:=q1
 subst ex
 cases r1 with
 | cons r rr =>
  cases rr
  cases r
  obtain⟨its,rv,p',hz⟩:=I1.list hq
  refine call_enumerate_list p'.isList fun h' he hit hsz hk=>wpAny_pyIter_enum he ?_
  have I2:Inv X pins σ H1 {s1 with heap:=h'}:=I1.kept (t':=s1.toks) hk
  refine⟨s1.heap.objs.size+1,[s1.heap.objs.size+1,s1.heap.objs.size],_,_,H1,rfl,I2,rO a (s1.heap.objs.size+1) s1.heap.objs.size,⟨⟨.none,he⟩,hit,Nat.succ_ne_self _⟩,fun b hb=>?_,q⟩
  have e':b=s1.heap.objs.size+1∨b=s1.heap.objs.size:=by simpa using hb
  have hle:s1.heap.objs.size<=b:=by
   rcases e' with z | z
   ·rw[z];exact Nat.le_add_right _ _
   ·rw[z];exact Nat.le_refl _
  exact I1.fpOk hle (I1.hok.fresh hle)
theorem md:bootBuiltins "zip" = some (.type "zip"):=by decide +kernel
def Itz (K:W.Frag) (a b:Addr):It :=
 ⟨fun i H=>∃(xs ys:List V) (x y:V),SqL K H a xs/\SqL K H b ys/\xs[i]?=some x/\ys[i]?=some y,
  fun i H v H'=>∃T x y,v=.ref T/\H T=none/\H'=upd H T (.tup [x,y])/\(∀xs,SqL K H a xs->xs[i]?=some x)/\∀ys,SqL K H b ys->ys[i]?=some y,
  fun i H=>∃xs ys:List V,SqL K H a xs/\SqL K H b ys/\(xs.length<=i∨ys.length<=i)⟩
theorem t8 {P:Program}{w:World}{K:W.Frag}{elts:List Expr}{kk:Nat}{tpos:Pos}{a b z TI TO i1 i2:Addr} (D:ZipApart z TI TO i1 i2 a b) :
  Turn P w K (.Tuple elts kk tpos) (Itz K a b) [z,TI,TO,i1,i2] z (fun i h=>IsZip h z TI TO .none/\IsPair h TI (.ref i1) (.ref i2)/\(∃x y,IsPair h TO x y)/\h.IsListIter i1 a i/\h.IsListIter i2 b i) where
 mem:=by simp
 obj:=fun i h st c hc=>by
  obtain⟨hz,hTI,⟨x,y,hTO⟩,⟨o1,e1,_,d1⟩,⟨o2,e2,_,d2⟩⟩:=st
  have e':c=z∨c=TI∨c=TO∨c=i1∨c=i2:=by simpa using hc
  rcases e' with q | q | q | q | q
  ·rw[q];exact⟨_,hz,fun v q=>nomatch q⟩
  ·rw[q];exact⟨_,hTI,fun v q=>nomatch q⟩
  ·rw[q];exact⟨_,hTO,fun v q=>nomatch q⟩
  ·rw[q];exact⟨o1,e1,fun v q=>by rw[d1] at q;cases q⟩
  ·rw[q];exact⟨o2,e2,fun v q=>by rw[d2] at q;cases q⟩
 keep:=fun i h h' st k=>by
  obtain⟨hz,hTI,⟨x,y,hTO⟩,h1,h2⟩:=st
  exact⟨k z (by simp) _ hz,k TI (by simp) _ hTI,⟨x,y,k TO (by simp) _ hTO⟩,h1.at fun o q=>k i1 (by simp) o q,h2.at fun o q=>k i2 (by simp) o q⟩
 item:=by
  intro X hP hw hK hc i pins s σ H E I hf st hg
  subst hP hw hK
  obtain⟨hz,hTI,⟨x0,y0,hTO⟩,h1,h2⟩:=st
  obtain⟨xs,ys,x,y,hqx,hqy,hx,hy⟩:=hg
  obtain⟨its,rv,p,_⟩:=I.list hqx
  obtain⟨its2,rv2,p2,_⟩:=I.list hqy
  obtain⟨u,hu,ru⟩:=rv.get hx
  obtain⟨u2,hu2,ru2⟩:=rv2.get hy
  have hzl:z<s.heap.objs.size:=Heap.lt_size hz
  refine wpAny_pyNext_zip_item D hz hTI hTO h1 h2 p.isList p2.isList (x:=u) (y:=u2) (by simpa using hu) (by simpa using hu2) fun h' z' TO' h1' h2' hT hsz hk=>?_
  refine⟨_,rfl,wpAny_letOwnedTupleGo_zip (s:={s with heap:=h'}) z' fun h'' z'' sb=>?_⟩
  have hT2:h''.get? s.heap.objs.size=some {cls:=.type "tuple",data:=.seq #[u,u2]}:=(sb.2 _ (Nat.ne_of_gt hzl)).trans hT
  have new:ObjOk X.prog X.w (upd H s.heap.objs.size (.tup [x,y])) h'' s.heap.objs.size (.tup [x,y]) :=
   ⟨by show 2<=sizeLine;decide,[u,u2],.cons ru (.cons ru2 .nil),⟨_,hT2,rfl,⟨_,rfl⟩,rfl⟩⟩
  have I1:Inv X pins σ (upd H s.heap.objs.size (.tup [x,y])) {s with heap:=h''} :=
   I.turnedNew (t':=s.toks) (ch:=[z,TI,TO,i1,i2]) (fun c o hb q=>(sb.2 c (fun q'=>hb (by simp[q']))).trans (hk c o (fun q'=>hb (by simp[q'])) (fun q'=>hb (by simp[q'])) (fun q'=>hb (by simp[q'])) (fun q'=>hb (by simp[q'])) q)) hf (Nat.le_refl _) new
  refine⟨.ref s.heap.objs.size,_,I1,rfl,⟨_,x,y,rfl,I.hok.fresh (Nat.le_refl _),rfl,fun l hl=>by rw[I.list_inj hl hqx];exact hx,fun l hl=>by rw[I.list_inj hl hqy];exact hy⟩,⟨z'',?_,⟨u,u2,?_⟩,?_,?_⟩,fun c hcm=>?_⟩
  ·exact (sb.2 _ D.TIz).trans (hk _ _ D.TIz D.TITO D.TIi1 D.TIi2 hTI)
  ·exact (sb.2 _ D.TOz).trans TO'
  ·exact h1'.at fun o q=>(sb.2 _ D.i1z).trans q
  ·exact h2'.at fun o q=>(sb.2 _ D.i2z).trans q
  ·have hlt:c<s.heap.objs.size:=by
    have e':c=z∨c=TI∨c=TO∨c=i1∨c=i2:=by simpa using hcm
    rcases e' with q | q | q | q | q
    ·rw[q];exact hzl
    ·rw[q];exact Heap.lt_size hTI
    ·rw[q];exact Heap.lt_size hTO
    ·rw[q];obtain⟨_,e1,_⟩:=h1;exact Heap.lt_size e1
    ·rw[q];obtain⟨_,e2,_⟩:=h2;exact Heap.lt_size e2
   rw[ai (Nat.ne_of_lt hlt)]
   exact (hf c hcm).1
 done:=by
  intro X hP hw hK hc i pins s σ H E I hf st hg
  subst hP hw hK
  obtain⟨hz,hTI,⟨x0,y0,hTO⟩,h1,h2⟩:=st
  obtain⟨xs,ys,hqx,hqy,hend⟩:=hg
  obtain⟨its,rv,p,_⟩:=I.list hqx
  obtain⟨its2,rv2,p2,_⟩:=I.list hqy
  have l1:=rv.length
  have l2:=rv2.length
  have he:its.toArray[i]?=none∨its2.toArray[i]?=none:=by
   rcases hend with q | q
   ·exact .inl (by simp;omega)
   ·exact .inr (by simp;omega)
  exact wpAny_pyNext_zip_end (I.ok.hd hc) D hz hTI hTO h1 h2 p.isList p2.isList he fun h' hk=>⟨rfl,I.turnedL (t':=s.toks) (ch:=[z,TI,TO,i1,i2]) (fun c o hb q =>
   hk c o (fun q'=>hb (by simp[q'])) (fun q'=>hb (by simp[q'])) (fun q'=>hb (by simp[q'])) (fun q'=>hb (by simp[q'])) q) hf⟩
 self:=fun A i s Q E st h=>wpAny_pyIter_zip st.1 h
def Ad (K:W.Frag) (ta:TA):TI:=fun σ H R=>ta σ H fun vs H1=>∃a b xs ys,vs=[.ref a,.ref b]/\SqL K H1 a xs/\SqL K H1 b ys/\R (Itz K a b) H1
theorem uO {X:Cx}{e e2:Expr}{ta:TA}{p pos tpos:Pos}{elts:List Expr}{kk:Nat} (hg:Gl X "zip") (hm:X.mg "zip" = none) (ha:PA X [e,e2] ta)
  (hs:starEach [e,e2] X.env=(false,eval e X.env)::starEach [e2] X.env:=by rfl) (hpl:(backTo pos (starEach [e2] X.env)).any (·.1)=false:=by rfl) :
  PI X (.Tuple elts kk tpos) (.Call (.Name "zip" p) [e,e2] [] pos) (Ad X.K ta):=by
 intro pins s σ H R I h
 refine Call_ (d8 I hg hm md (PyProof.Rows.callWith_type1 (thn (ha pos pins s σ H _ I h) fun us s1 ⟨vs,H1,I1,r1,q1⟩=>?_) hs hpl))
 obtain⟨a,b,xs,ys,ex,hqx,hqy,q⟩:=q1
 subst ex
 cases r1 with
 | cons r rr =>
  cases rr with
  | cons r' rr =>
   cases rr
   cases r
   cases r'
   obtain⟨its,rv,p1,_⟩:=I1.list hqx
   obtain⟨its2,rv2,p2,_⟩:=I1.list hqy
   have la:a<s1.heap.objs.size:=p1.lt
   have lb:b<s1.heap.objs.size:=p2.lt
   refine call_zip_2 p1.isList p2.isList fun h' hz hTI hTO h1 h2 hsz hk=>wpAny_pyIter_zip hz ?_
   have I2:Inv X pins σ H1 {s1 with heap:=h'}:=I1.kept (t':=s1.toks) hk
   refine⟨s1.heap.objs.size+4,[s1.heap.objs.size+4,s1.heap.objs.size+2,s1.heap.objs.size+3,s1.heap.objs.size,s1.heap.objs.size+1],_,_,H1,rfl,I2,t8 (W.ktu_apart s1.heap.objs.size a b la lb),⟨hz,hTI,⟨_,_,hTO⟩,h1,h2⟩,fun c hcm=>?_,q⟩
   have e':c=s1.heap.objs.size+4∨c=s1.heap.objs.size+2∨c=s1.heap.objs.size+3∨c=s1.heap.objs.size∨c=s1.heap.objs.size+1:=by simpa using hcm
   have hle:s1.heap.objs.size<=c:=by
    rcases e' with z | z | z | z | z
    ·rw[z];exact Nat.le_add_right _ _
    ·rw[z];exact Nat.le_add_right _ _
    ·rw[z];exact Nat.le_add_right _ _
    ·rw[z];exact Nat.le_refl _
    ·rw[z];exact Nat.le_add_right _ _
   exact I1.fpOk hle (I1.hok.fresh hle)
end L2
section
namespace Bits
open PySem PyProof.Rows
end Bits
end
section
namespace TL
open PySem PySem.Builtin PySem.Builtin.Str PySem.StrLaws
abbrev tl (x:Str):List Nat:=x.cps.toList
theorem iw (x:Str):x.length=(tl x).length:=by simp[tl,Str.length]
theorem p0 {x y:Str} (h:tl x=tl y):x=y:=Str.ext' (Array.toList_inj.mp h)
theorem ia (x y:Str):tl (x++y)=tl x++tl y:=by
 show (x++y).cps.toList=_
 rw[Str.cps_append,Array.toList_append]
theorem jS:∀{l m:List Str},l.map tl=m.map tl->l=m
 | [],[],_=>rfl
 | [],_::_,h=>by simp at h
 | _::_,[],h=>by simp at h
 | x::l,y::m,h=>by
  rw[List.map_cons,List.map_cons] at h
  injection h with h1 h2
  rw[p0 h1,jS h2]
def pre (S l:List Nat):Bool:=l.take S.length==S
def spl (S:List Nat):Nat->List Nat->List Nat->List (List Nat)
 | _,acc,[]=>[acc]
 | 0,acc,c::r=>if pre S (c::r)=true then acc::spl S (S.length-1) [] r else spl S 0 (acc++[c]) r
 | k+1,acc,_::r=>spl S k acc r
theorem spl_nil (S:List Nat) (k:Nat) (acc:List Nat):spl S k acc []=[acc]:=by cases k <;> rfl
theorem spl_hit {S acc r:List Nat}{c:Nat} (h:pre S (c::r)=true):spl S 0 acc (c::r)=acc::spl S (S.length-1) [] r:=by
 show (if pre S (c::r)=true then acc::spl S (S.length-1) [] r else spl S 0 (acc++[c]) r)=_
 rw[if_pos h]
theorem spl_miss {S acc r:List Nat}{c:Nat} (h:pre S (c::r)=false):spl S 0 acc (c::r)=spl S 0 (acc++[c]) r:=by
 show (if pre S (c::r)=true then acc::spl S (S.length-1) [] r else spl S 0 (acc++[c]) r)=_
 rw[if_neg (by rw[h];exact Bool.false_ne_true)]
theorem nu (S:List Nat):∀(k:Nat) (acc l:List Nat),spl S k acc l=spl S 0 acc (l.drop k)
 | 0,_,_=>by rw[List.drop_zero]
 | k+1,acc,[]=>by rw[List.drop_nil,spl_nil,spl_nil]
 | k+1,acc,c::r=>by
  show spl S k acc r=spl S 0 acc (r.drop k)
  exact nu S k acc r
theorem wy {S:List Nat} (hS:S≠[]):pre S []=false:=by
 cases S with
 | nil=>exact absurd rfl hS
 | cons s S=>rfl
theorem nJ {s c:Nat} (S r:List Nat) (h:c≠s):pre (s::S) (c::r)=false:=by
 cases hp:pre (s::S) (c::r) with
 | false=>rfl
 | true =>
  have e:(c::r).take (s::S).length=s::S:=eq_of_beq hp
  rw[List.length_cons,List.take_succ_cons] at e
  injection e with e1 e2
  exact absurd e1 h
theorem uL (S r:List Nat):pre S (S++r)=true:=by
 show ((S++r).take S.length==S)=true
 have e:(S++r).take S.length=S:=List.take_left
 rw[e] <;> exact beq_self_eq_true S
theorem gU {L:List Nat}{a:Nat} (h:a<L.length):∃c,L.drop a=c::L.drop (a+1):=⟨L[a],List.drop_eq_getElem_cons h⟩
theorem mt (S L:List Nat):∀(m a:Nat) (acc:List Nat),a+m<=L.length->(∀k,a<=k->k<a+m->pre S (L.drop k)=false) ->
  spl S 0 acc (L.drop a)=spl S 0 (acc++(L.drop a).take m) (L.drop (a+m))
 | 0,a,acc,_,_=>by rw[List.take_zero,List.append_nil,Nat.add_zero]
 | m+1,a,acc,h,hn=>by
  have hlt:a<L.length:=by omega
  obtain⟨c,e⟩:=gU hlt
  have h0:=hn a (Nat.le_refl _) (by omega)
  have ih:=mt S L m (a+1) (acc++[c]) (by omega) (fun k h1 h2=>hn k (by omega) (by omega))
  have e2:a+1+m=a+(m+1):=by omega
  rw[e2] at ih
  rw[e] at h0
  rw[e,spl_miss h0,ih,List.take_succ_cons,List.append_assoc] <;> rfl
theorem vN (L:List Nat) (a b:Nat):(L.drop a).drop b=L.drop (a+b):=by
 first
  | rw[List.drop_drop]
  | rw[List.drop_drop,Nat.add_comm]
theorem ya {S L:List Nat} (hS:S≠[]) {c:Nat}{acc:List Nat} (h:pre S (L.drop c)=true):spl S 0 acc (L.drop c)=acc::spl S 0 [] (L.drop (c+S.length)):=by
 rw[← vN]
 cases e:L.drop c with
 | nil=>rw[e,wy hS] at h;cases h
 | cons d r =>
  rw[e] at h
  rw[spl_hit h,nu]
  cases S with
  | nil=>exact absurd rfl hS
  | cons s S=>rfl
theorem vU {x y:Str} (hy:tl y≠[]) (i:Nat):At x y x.length i↔pre (tl y) ((tl x).drop i)=true:=by
 have hx:=iw x
 have hl:=iw y
 constructor
 ·intro h
  have h2:=h.2
  rw[subAt_eq,hl] at h2
  exact h2
 ·intro h
  have e:((tl x).drop i).take (tl y).length=tl y:=eq_of_beq h
  have e1:=congrArg List.length e
  rw[List.length_take,List.length_drop] at e1
  have e2:0<(tl y).length:=List.length_pos_iff.mpr hy
  refine⟨by omega,?_⟩
  rw[subAt_eq,hl]
  exact h
theorem xJ {x y:Str} (hy:tl y≠[]) {i:Nat} (h:¬At x y x.length i):pre (tl y) ((tl x).drop i)=false:=by
 cases hp:pre (tl y) ((tl x).drop i) with
 | false=>rfl
 | true=>exact absurd ((vU hy i).mpr hp) h
theorem len1 {y:Str} (hy:tl y≠[]):1<=y.length:=by
 have e2:0<(tl y).length:=List.length_pos_iff.mpr hy
 rw[iw y]
 exact e2
theorem lm (x:Str) (i j:Nat):tl (strSub x i j)=((tl x).drop i).take (j-i):=strSub_toList x i j
theorem kR (x:Str) (i:Nat):tl (strSub x i x.length)=(tl x).drop i:=by
 rw[lm,iw x]
 exact List.take_of_length_le (by rw[List.length_drop] <;> omega)
theorem lD {x y:Str} (hy:tl y≠[]):∀(cuts:List Nat) (a f:Nat),a<=(tl x).length->ChainG x y x.length a cuts f->(∀k,f<=k->¬At x y x.length k) ->
  (partsFrom x y.length a cuts).map tl=spl (tl y) 0 [] ((tl x).drop a)
 | [],a,f,ha,h,hn=>by
  have e:f=a:=h
  subst e
  show [tl (strSub x f x.length)]=_
  have run:=mt (tl y) (tl x) ((tl x).length-f) f [] (by omega) (fun k h1 _=>xJ hy (hn k h1))
  have e2:f+((tl x).length-f)=(tl x).length:=by omega
  rw[e2,List.drop_length,spl_nil,List.nil_append,List.take_of_length_le (by rw[List.length_drop] <;> omega)] at run
  rw[run,kR]
 | c::r,a,f,ha,h,hn=>by
  obtain⟨h1,h2,h3,h4⟩:=h
  have hc:c+y.length<=x.length:=h2.1
  have hx:=iw x
  have hl:=iw y
  have ih:=lD hy r (c+y.length) f (by omega) h4 hn
  show tl (strSub x a c)::(partsFrom x y.length (c+y.length) r).map tl=_
  have run:=mt (tl y) (tl x) (c-a) a [] (by omega) (fun k k1 k2=>xJ hy (h3 k k1 (by omega)))
  have e2:a+(c-a)=c:=by omega
  rw[e2,List.nil_append,ya hy ((vU hy c).mp h2)] at run
  rw[run,ih,lm,hl]
theorem rR (x y:Str) (hy:tl y≠[]) (hk:¬Builtin.Str.strKind x<Builtin.Str.strKind y):(Txt.split x y).map tl=spl (tl y) 0 [] (tl x):=by
 obtain⟨f,g,hn⟩:=occ_tight x y (len1 hy)
 have key:=lD hy _ 0 f (Nat.zero_le _) g hn
 rw[List.drop_zero] at key
 have none_case:occurrences x y 0 x.length (x.length+1)=[]->[x].map tl=spl (tl y) 0 [] (tl x):=fun ho=>by
  rw[ho] at key
  rw[← key]
  show [tl x]=[tl (strSub x 0 x.length)]
  rw[sub_whole]
 unfold Txt.split
 by_cases h1:(decide (x.length<y.length) || decide (Builtin.Str.strKind x<Builtin.Str.strKind y))=true
 ·rw[if_pos h1]
  have hlt:x.length<y.length:=by
   simp only[Bool.or_eq_true,decide_eq_true_eq] at h1
   rcases h1 with h | h
   ·exact h
   ·exact absurd h hk
  refine none_case ?_
  cases ho:occurrences x y 0 x.length (x.length+1) with
  | nil=>rfl
  | cons c r =>
   rw[ho] at g
   have hc:c+y.length<=x.length:=g.2.1.1
   omega
 ·rw[if_neg h1]
  by_cases h2:(occurrences x y 0 x.length (x.length+1)).isEmpty=true
  ·rw[if_pos h2]
   exact none_case (List.isEmpty_iff.mp h2)
  ·rw[if_neg h2,partsBetween_eq]
   exact key
theorem xf {x y:Str} (h:y.cps.all (· < 256)=true):¬Builtin.Str.strKind x<Builtin.Str.strKind y:=by
 have e:Builtin.Str.strKind y=1:=by unfold PySem.Builtin.Str.strKind;rw[if_pos h]
 rw[e]
 unfold PySem.Builtin.Str.strKind
 split
 ·omega
 ·split <;> omega
def kc (S:List Nat):List (List Nat)->List Nat
 | []=>[]
 | [p]=>p
 | p::q::r=>p++(S++kc S (q::r))
theorem qo (y:Str):∀parts:List Str,tl (Str.join y parts)=kc (tl y) (parts.map tl)
 | []=>rfl
 | [_]=>rfl
 | x::z::r=>by
  show tl (x++y++Str.join y (z::r))=tl x++(tl y++kc (tl y) ((z::r).map tl))
  rw[ia,ia,qo y (z::r),List.append_assoc]
theorem xg (y:Str) (parts:List Str):Txt.join y parts=Str.join y parts:=glued_eq_join y parts
end TL
end
namespace L2
open PySem PySem.Spec PyProof.Rows
theorem lj:∀l:List (Str×Tok),Vals ((l.map (·.1)).map V.str) (strValues l)
 | []=>.nil
 | p::r=>.cons ⟨p.2,rfl⟩ (lj r)
theorem dn:∀{ys:List Str}{us:List Value},Vals (ys.map V.str) us->StrsAre us ys
 | [],_,.nil=>.nil
 | y::ys,_,.cons r t=>by
  obtain⟨k,rfl⟩:=r
  exact .cons y k (dn t)
def jF (ys:List Str):Hp->VK->Prop:=fun H Q=>∀p,H p=none->Q (.ref p) (upd H p (.lst (ys.map V.str)))
section
variable {X:Cx}{pins:List (Addr×Obj)}{σ:St}{H:Hp}{s:Shared}{Q:VK}
theorem iz {l:List (Str×Tok)}{ys:List Str}{k:Nat} (I:Inv X pins σ H s) (e:l.map (·.1)=ys) (hz:ys.length<=sizeLine) (h:jF ys H Q) :
  EP X pins σ Q (.ref s.heap.objs.size) {s with toks:=k,heap:=s.heap.push {cls:=.type "list",data:=.seq (strValues l).toArray}}:=by
 have hp:=I.hok.fresh (Nat.le_refl _)
 refine⟨.ref s.heap.objs.size,upd H s.heap.objs.size (.lst (ys.map V.str)),I.laid (fun b u q=>Heap.get?_push_of_some _ q) (Nat.le_refl _) ⟨by rw[List.length_map];exact hz,strValues l,_,?_,Heap.get?_push_size _ rfl⟩,rfl,h _ hp⟩
 rw[← e]
 exact lj l
end
section
variable {X:Cx}
theorem vp:MtR X "str.split" (fun x xs H Q=>∃a b,x=.str a/\xs=[.str b]/\(b.length==0)=false/\a.length+2<=sizeLine/\jF (Txt.split a b) H Q):=by
 intro pins s σ H x xs v us Q I rx rs h
 obtain⟨a,b,rfl,rfl,hb,hz,h⟩:=h
 obtain⟨t,rfl⟩:=rx
 cases rs with
 | cons r1 rs =>
  cases rs
  obtain⟨u,rfl⟩:=r1
  have hl:(Txt.split a b).length<=sizeLine:=Nat.le_trans (PyProof.Rows.split_le a b) hz
  have hn:(Builtin.Str.partsBetween a (Builtin.Str.occurrences a b 0 a.length (a.length+1)) b.length).length<=sizeLine:=by
   have e1:=StrLaws.occ_length_le a b 0 a.length (a.length+1)
   rw[length_partsBetween];omega
  cases h1:(decide (a.length<b.length) || decide (Builtin.Str.strKind a<Builtin.Str.strKind b))
  ·cases hf:(Builtin.Str.occurrences a b 0 a.length (a.length+1)).isEmpty
   ·refine call_meets F.slot_str_split (typeIs_str _ _ _) F.entry_str_split (F.args_str_split_2 _ _) (meets_str_split_sep a b t u h1 hb hf (by omega) hn) ?_
    show EP X pins σ Q (.ref s.heap.objs.size) {s with toks:=_,heap:=s.heap.push {cls:=.type "list",data:=.seq (strsFrom s.toks (Builtin.Str.partsBetween a (Builtin.Str.occurrences a b 0 a.length (a.length+1)) b.length)).toArray}}
    rw[strsFrom_eq]
    exact iz (ys:=Txt.split a b) I ((numbered_texts _ _).trans ((if_neg (ne_true_of_eq_false h1)).trans (if_neg (ne_true_of_eq_false hf))).symm) hl h
   ·refine call_meets F.slot_str_split (typeIs_str _ _ _) F.entry_str_split (F.args_str_split_2 _ _) (meets_str_split_not_found a b t u h1 hb hf) ?_
    exact iz (l:=[(a,t)]) (ys:=Txt.split a b) (k:=s.toks) I ((if_neg (ne_true_of_eq_false h1)).trans (if_pos hf)).symm hl h
  ·refine call_meets F.slot_str_split (typeIs_str _ _ _) F.entry_str_split (F.args_str_split_2 _ _) (meets_str_split_cannot_occur a b t u h1) ?_
   exact iz (l:=[(a,t)]) (ys:=Txt.split a b) (k:=s.toks) I (if_pos h1).symm hl h
theorem wZ:MtR X "str.join" (fun x xs H Q=>∃a p,∃ys:List Str,x=.str a/\xs=[.ref p]/\(SqL X.K H p (ys.map V.str)∨SqT X.K H p (ys.map V.str)) /\
  (ys.map (·.length)).sum+ys.length * a.length<=16777216/\Q (.str (Txt.join a ys)) H):=by
 intro pins s σ H x xs v us Q I rx rs h
 obtain⟨a,p,ys,rfl,rfl,hp,hz,h⟩:=h
 obtain⟨t,rfl⟩:=rx
 cases rs with
 | cons r1 rs =>
  cases rs
  cases r1
  rcases hp with hp | hp
  ·obtain⟨its,r,⟨o,n,ho,hc,_,hd⟩,_⟩:=I.list hp
   exact PyProof.Rows.join_list (items:=its.toArray) ⟨o,ho,hc,n,hd⟩ (by rw[List.toList_toArray];exact dn r) hz fun t' k=>⟨.str _,H,I.tok k,⟨t',rfl⟩,h⟩
  ·obtain⟨its,r,ht,_⟩:=I.tuple hp
   exact PyProof.Rows.join_tuple (items:=its.toArray) ht (by rw[List.toList_toArray];exact dn r) hz fun t' k=>⟨.str _,H,I.tok k,⟨t',rfl⟩,h⟩
theorem mt0 {id:String}{C:Str->Prop}{g:Str->V} (rule:∀(a:Str) (t:Tok) (s:Shared) (Q:Value->Shared->Prop),C a->(∀(u:Value) (k:Nat),RelV (g a) u->Q u {s with toks:=k}) ->
  wpAny (model X.prog X.w) X.A (call (.builtin id) [.str a t]) Q X.xe s):MtR X id (fun x xs H Q=>∃a,x=.str a/\xs=[]/\C a/\Q (g a) H):=by
 intro pins s σ H x xs v us Q I rx rs h
 obtain⟨a,rfl,rfl,hc,h⟩:=h
 obtain⟨t,rfl⟩:=rx
 cases rs
 exact rule a t s _ hc fun u k r=>⟨g a,H,I.tok k,r,h⟩
theorem pO:MtR X "str.isdigit" (fun x xs H Q=>∃a,x=.str a/\xs=[]/\True/\Q (.bl (Txt.isdigit a)) H) :=
 mt0 (C:=fun _=>True) (g:=fun a=>.bl (Txt.isdigit a)) fun _ _ s _ _ h=>PySem.SC.isdigit (h _ s.toks rfl)
theorem mt1 {id:String}{g:Str->Str->V} (rule:∀(a b:Str) (t u:Tok) (s:Shared) (Q:Value->Shared->Prop),(∀(v:Value) (k:Nat),RelV (g a b) v->Q v {s with toks:=k}) ->
  wpAny (model X.prog X.w) X.A (call (.builtin id) [.str a t,.str b u]) Q X.xe s):MtR X id (fun x xs H Q=>∃a b,x=.str a/\xs=[.str b]/\Q (g a b) H):=by
 intro pins s σ H x xs v us Q I rx rs h
 obtain⟨a,b,rfl,rfl,h⟩:=h
 obtain⟨t,rfl⟩:=rx
 cases rs with
 | cons r1 rs =>
  cases rs
  obtain⟨u,rfl⟩:=r1
  exact rule a b t u s _ fun v k r=>⟨g a b,H,I.tok k,r,h⟩
theorem lc:MtR X "str.startswith" (fun x xs H Q=>∃a b,x=.str a/\xs=[.str b]/\Q (.bl (Txt.startswith a b)) H) :=
 mt1 (g:=fun a b=>.bl (Txt.startswith a b)) fun _ _ _ _ s _ h=>PySem.SC.startswith (h _ s.toks rfl)
theorem w4:MtR X "str.find" (fun x xs H Q=>∃a b,x=.str a/\xs=[.str b]/\Q (.int (Txt.find a b)) H) :=
 mt1 (g:=fun a b=>.int (Txt.find a b)) fun _ _ _ _ s _ h=>PySem.SC.find (h _ (s.toks+1) ⟨_,rfl⟩)
theorem hU:eJ X (.type "int") (fun xs H Q=>∃a n,xs=[.str a]/\PySem.intText? a=some n/\a.length<=640/\Q (.int n) H):=by
 intro pins s σ H xs us Q I rs h
 obtain⟨a,n,rfl,hn,hl,h⟩:=h
 cases rs with
 | cons r1 rs =>
  cases rs
  obtain⟨t,rfl⟩:=r1
  exact W.KIN.call_text hn hl ⟨.int n,H,I.tok _,⟨_,rfl⟩,h⟩
end
section
variable {X:Cx}{o e:Expr}{to te:TE}
def tM0 (r:V->List V->Hp->VK->Prop) (to:TE):TE:=fun σ H Q=>to σ H fun x H1=>(∃a,x=.str a)/\r x [] H1 Q
def tM1 (r:V->List V->Hp->VK->Prop) (to te:TE):TE:=fun σ H Q=>to σ H fun x H1=>(∃a,x=.str a)/\te σ H1 fun y H2=>r x [y] H2 Q
theorem zk {id:String}{name:Str}{apos pos:Pos}{r:V->List V->Hp->VK->Prop} (slot:Slot "str" name id) (ty:typeOf (.builtin id)=pure (.type "method_descriptor")) (rule:MtR X id r) (ho:PE X o to)
  (hbase:attributeBase o name X.env (eval o X.env)=eval o X.env:=by rfl) (hline:(apos.endLine==pos.line)=true:=by rfl):PE X (.Call (.Attribute o name apos) [] [] pos) (tM0 r to):=by
 intro pins s σ H Q I h
 refine PySem.Call_method0 hbase hline (thn (ho pins s σ H _ I h) fun v s1 ⟨x,H1,I1,r1,q1⟩=>?_)
 obtain⟨⟨a,rfl⟩,q1⟩:=q1
 obtain⟨t,rfl⟩:=_root_.id r1
 exact⟨"str",_,F.plainAttrs_str,slot,ty,typeIs_str _ _ _,(fun _ e=>nomatch e),Calls.callWith_builtin rfl (PySem.evalArgs_none (rule pins s1 σ H1 _ [] _ [] Q I1 r1 .nil q1))⟩
theorem lC {id:String}{name:Str}{apos pos:Pos}{r:V->List V->Hp->VK->Prop} (slot:Slot "str" name id) (ty:typeOf (.builtin id)=pure (.type "method_descriptor")) (rule:MtR X id r) (ho:PE X o to) (he:PE X e te)
  (hs:starEach [e] X.env=[(false,eval e X.env)]:=by rfl) (hbase:attributeBase o name X.env (eval o X.env)=eval o X.env:=by rfl) (hline:(apos.endLine==pos.line)=true:=by rfl) :
  PE X (.Call (.Attribute o name apos) [e] [] pos) (tM1 r to te):=by
 intro pins s σ H Q I h
 refine PySem.Call_method1 hbase hs hline (thn (ho pins s σ H _ I h) fun v s1 ⟨x,H1,I1,r1,q1⟩=>?_)
 obtain⟨⟨a,rfl⟩,q1⟩:=q1
 obtain⟨t,rfl⟩:=_root_.id r1
 refine⟨"str",_,F.plainAttrs_str,slot,ty,typeIs_str _ _ _,(fun _ e=>nomatch e),Calls.callWith_builtin rfl (Calls.evalArgs_plain (Calls.spliced_cons ?_))⟩
 exact thn (he pins s1 σ H1 _ I1 q1) fun u s2 ⟨y,H2,I2,r2,q2⟩=>Calls.spliced_nil (rule pins s2 σ H2 _ [y] _ [u] Q I2 r1 (.cons r2 .nil) q2)
theorem dX {apos pos:Pos} (ho:PE X o to) (he:PE X e te) (hs:starEach [e] X.env=[(false,eval e X.env)]:=by rfl) (hbase:attributeBase o "split" X.env (eval o X.env)=eval o X.env:=by rfl) (hline:(apos.endLine==pos.line)=true:=by rfl) :
  PE X (.Call (.Attribute o "split" apos) [e] [] pos) (tM1 (fun x xs H Q=>∃a b,x=.str a/\xs=[.str b]/\(b.length==0)=false/\a.length+2<=sizeLine/\jF (Txt.split a b) H Q) to te) :=
 lC F.slot_str_split F.type_str_split vp ho he hs hbase hline
theorem qN {apos pos:Pos} (ho:PE X o to) (he:PE X e te) (hs:starEach [e] X.env=[(false,eval e X.env)]:=by rfl) (hbase:attributeBase o "join" X.env (eval o X.env)=eval o X.env:=by rfl) (hline:(apos.endLine==pos.line)=true:=by rfl) :
  PE X (.Call (.Attribute o "join" apos) [e] [] pos) (tM1 (fun x xs H Q=>∃a p,∃ys:List Str,x=.str a/\xs=[.ref p]/\(SqL X.K H p (ys.map V.str)∨SqT X.K H p (ys.map V.str)) /\
   (ys.map (·.length)).sum+ys.length * a.length<=16777216/\Q (.str (Txt.join a ys)) H) to te) :=
 lC F.slot_str_join F.type_str_join wZ ho he hs hbase hline
end
section
variable {X:Cx}
theorem fg:OpR X (compareOp .NotIn) (fun x y H Q=>∃(c:Nat) (z:Str),x=.str ⟨#[c]⟩/\y=.str z/\Q (.bl (!decide (c∈z.cps.toList))) H):=by
 intro pins s σ H x y v u Q I rx ry h
 obtain⟨c,z,rfl,rfl,q⟩:=h
 obtain⟨t,rfl⟩:=rx
 obtain⟨t',rfl⟩:=ry
 exact PyProof.Rows.notIn_str (aU I q (congrArg Bool.not (PySem.StrLaws.found_one z c).symm))
end
theorem IsPart.raw {v:Value}{o:Option Int} (p:IsPart v o):∃l:Option (Int×Tok),v=partValue l/\l.map (·.1)=o:=by
 cases p with
 | none=>exact⟨none,rfl,rfl⟩
 | int i t=>exact⟨some (i,t),rfl,rfl⟩
def oW (n d:Nat):Option Int->Int
 | none=>(d:Int)
 | some i=>max 0 (min (if i<0 then i+(n:Int) else i) (n:Int))
theorem oV (n d:Nat) (o:Option Int):oW n d o=((HT.sIx n d o:Nat):Int):=by
 cases o with
 | none=>rfl
 | some v =>
  show max (0:Int) (min (if v<0 then v+(n:Int) else v) (n:Int))=(((if v<0 then (v+(n:Int)).toNat else min v.toNat n):Nat):Int)
  by_cases hv:v<0
  ·simp only[if_pos hv]
   omega
  ·simp only[if_neg hv]
   omega
theorem rT (a b:Option Int) (n:Nat):Builtin.Str.strSliceIndices a b 1 n=sliceRange (oW n 0 a) (oW n n b) 1:=by
 have h1:((1:Int) > 0)=True:=by simp
 cases a <;> cases b <;> first
  | rfl
  | (simp only[Builtin.Str.strSliceIndices,oW,h1,if_true];rfl)
  | simp[Builtin.Str.strSliceIndices,oW]
theorem sidx (a b:Option Int) (n:Nat):Builtin.Str.strSliceIndices a b 1 n=(List.range (HT.sIx n n b-HT.sIx n 0 a)).map (fun k=>HT.sIx n 0 a+k):=by
 rw[rT,oV,oV]
 generalize HT.sIx n 0 a=p
 generalize HT.sIx n n b=q
 simp only[sliceRange,show ((1:Int) > 0)=True from by simp,if_true]
 by_cases hlt:(p:Int)<q
 ·have e3:(((q:Int)-p+1-1) / 1).toNat=q-p:=by first | omega | (simp;done) | (simp;omega)
  simp only[hlt,if_true,e3]
  refine List.map_congr_left fun k _=>?_
  omega
 ·have:q-p=0:=by omega
  simp[hlt,this]
def mZ (z:Str) (lo hi:Option Int):Str :=
 ⟨((z.cps.toList.drop (HT.sIx z.length 0 lo)).take (HT.sIx z.length z.length hi-HT.sIx z.length 0 lo)).toArray⟩
theorem fe (z:Str) (lo hi:Option Int):PySem.StrLaws.sliceText z lo hi=mZ z lo hi:=by
 have h1:HT.sIx z.length 0 lo<=z.length:=HT.sIx_le _ _ (Nat.zero_le _) _
 have h2:HT.sIx z.length z.length hi<=z.length:=HT.sIx_le _ _ (Nat.le_refl _) _
 have hp:HT.sIx z.length 0 lo<=max (HT.sIx z.length 0 lo) (HT.sIx z.length z.length hi):=Nat.le_max_left _ _
 have hq:max (HT.sIx z.length 0 lo) (HT.sIx z.length z.length hi)<=z.length:=Nat.max_le.mpr ⟨h1,h2⟩
 have hd:max (HT.sIx z.length 0 lo) (HT.sIx z.length z.length hi)-HT.sIx z.length 0 lo=HT.sIx z.length z.length hi-HT.sIx z.length 0 lo:=by omega
 have e:Builtin.Str.strSliceIndices lo hi 1 z.length =
   Builtin.Str.strSliceIndices (some ((HT.sIx z.length 0 lo:Nat):Int)) (some ((max (HT.sIx z.length 0 lo) (HT.sIx z.length z.length hi):Nat):Int)) 1 z.length:=by
  rw[PySem.StrLaws.strSliceIndices_plain hp hq,hd,sidx]
 have e2:PySem.StrLaws.sliceText z lo hi =
   PySem.StrLaws.sliceText z (some ((HT.sIx z.length 0 lo:Nat):Int)) (some ((max (HT.sIx z.length 0 lo) (HT.sIx z.length z.length hi):Nat):Int)):=by
  unfold PySem.StrLaws.sliceText
  rw[e]
 rw[e2,PySem.StrLaws.sliceText_nat z hp hq,hd]
 rfl
theorem oU (z:Str) (lo hi:Option Int):(mZ z lo hi).length<=z.length:=by
 show (((z.cps.toList.drop (HT.sIx z.length 0 lo)).take (HT.sIx z.length z.length hi-HT.sIx z.length 0 lo)).toArray).size<=z.cps.size
 rw[List.size_toArray,List.length_take,List.length_drop,Array.length_toList]
 omega
def z6:V->Option Int->Option Int->Hp->VK->Prop:=fun x lo hi H Q=>∃z,x=.str z/\z.length<=sizeLine/\Q (.str (mZ z lo hi)) H
theorem fD {X:Cx}:SlR X z6:=by
 intro pins s σ H x v vl vu lo hi sl Q I rx hs pl pu h
 obtain⟨z,rfl,hz,q⟩:=h
 obtain⟨t,rfl⟩:=rx
 obtain⟨os,hos,hcs,hds⟩:=hs
 obtain⟨l,rfl,rfl⟩:=IsPart.raw pl
 obtain⟨u,rfl,rfl⟩:=IsPart.raw pu
 refine⟨"str",_,F.slot_str_getitem.lookup,typeIs_str _ _ _,?_⟩
 refine wpAny_getItem_str_slice (l:=l) (u:=u) (st:=none) ⟨os,hos,hcs,hds⟩ rfl ?_
 have hl:(PySem.StrLaws.sliceText z (l.map (·.1)) (u.map (·.1))).length<=sizeLine:=by
  rw[fe]
  exact Nat.le_trans (oU z _ _) hz
 rw[← fe] at q
 unfold PySem.StrLaws.sliceText at q hl
 show Made.post (if ((1:Int)==1&&(Builtin.Str.strSliceIndices (l.map (·.1)) (u.map (·.1)) 1 z.length).length==z.length)=true then Made.val (.str z t)
  else Made.str ⟨((Builtin.Str.strSliceIndices (l.map (·.1)) (u.map (·.1)) 1 z.length).filterMap (z.cps[·]?)).toArray⟩) (EP X pins σ Q) s
 by_cases c:((1:Int)==1&&(Builtin.Str.strSliceIndices (l.map (·.1)) (u.map (·.1)) 1 z.length).length==z.length)=true
 ·rw[if_pos c] at q ⊢
  exact⟨.str z,H,I,⟨t,rfl⟩,q⟩
 ·rw[if_neg c] at q hl ⊢
  exact⟨hl,.str _,H,I.tok _,⟨_,rfl⟩,q⟩
end L2
namespace Att
open PySem PySem.W PySem.Calls PyProof.Rows
section
variable {prog:Program}{w:World}{A:Around}{E:Value->Shared->Prop}{s:Shared}{K:Frag}
end
end Att
namespace L2
open PySem PySem.Spec PyProof.Rows
def mS (s:Stmt) (j:Nat):Stmt:=match s with
 | .ClassDef _ _ _ body _ _ _ _ _ _ _=>body.getD j (.Pass ⟨0,0,0,0⟩)
 | _=>.Pass ⟨0,0,0,0⟩
def aC (s:Stmt):Arguments:=match s with
 | .FunctionDef _ a _ _ _ _ _ _ _ _=>a
 | _=>{posonlyargs:=[],args:=[],vararg:=none,kwonlyargs:=[],kw_defaults:=[],kwarg:=none,defaults:=[]}
def au (s:Stmt):List Stmt:=match s with
 | .FunctionDef _ _ b _ _ _ _ _ _ _=>b
 | _=>[]
def ad (s:Stmt):Scope:=match s with
 | .FunctionDef _ _ _ _ _ _ sc _ _ _=>sc
 | _=>{kind:=.function,names:=[],isGenerator:=false,isCoroutine:=false}
abbrev CX0:CXT:=fun _ _ _ _ _ _=>False
abbrev E0:XK:=fun _ _ _=>False
theorem pass0 {X:Cx}:Passes CX0 X E0:=fun _ _ _ _ _ _ _ h=>h.elim
structure Fun (K:W.Frag) (x qual:Str) (st:Stmt) (f:Addr) (fd:FuncData):Prop where
 ex:∃(oc:Value) (od:Option Addr) (kV doc pm:Value) (an:Option Addr) (cdv ct:Value) (osl:Array (Option Value)),
  fd=W.fnOf x qual (aC st) (au st) (ad st) .none kV doc pm an cdv ct/\K.lookup f=some ⟨oc,od,.func fd,osl⟩/\W.codeIn K cdv qual=true
 kp:W.keepIn K (.ref f)=true
section
variable {P:Program}{w:World}{K:W.Frag}{mg:Str->Option Value}{base:Heap}
theorem Fun.ok {x qual:Str}{st:Stmt}{f:Addr}{fd:FuncData}{N ps:List Str}{k:Nat}{sp:Sp} (F:Fun K x qual st f fd) (S:FnScope N ps (ad st)) (len:∀vs H Q E,sp vs H Q E->vs.length=ps.length)
  (hbody:∀(cdv:Value) (A:Around) (outer:List Env) (s:Shared) (H:Hp) (vs:List V) (Q:VK) (E:XK),Room k (A.deeper (envOfC qual (ad st) s.heap.objs.size f cdv))->sp vs H Q E ->
   ∃t,PSs (cxOf CX0 P w K mg base N qual (ad st) f cdv A outer s H E).nox (au st) t/\t {nx:=fun _ H'=>Q .non H',rt:=Q} (start N vs) H):FnOk P w K mg base CX0 (k+1) f fd ps sp:=by
 obtain⟨oc,od,kV,doc,pm,an,cdv,ct,osl,rfl,lk,hcd⟩:=F.ex
 refine vI lk hcd S len fun A outer s H vs Q E hr hsp=>?_
 obtain⟨t,h,q⟩:=hbody cdv A outer s H vs Q E hr hsp
 exact⟨t,h.nox,q⟩
theorem Fun.binds {x qual:Str}{st:Stmt}{f:Addr}{fd:FuncData}{ps:List Str} (F:Fun K x qual st f fd)
  (h:∀(kV doc pm:Value) (an:Option Addr) (cdv ct:Value) (us:List Value),us.length=ps.length->bindArgs (W.fnOf x qual (aC st) (au st) (ad st) .none kV doc pm an cdv ct) ⟨us,[]⟩=pure (ps.zip us)):Binds K fd ps []:=by
 obtain⟨oc,od,kV,doc,pm,an,cdv,ct,osl,rfl,lk,hcd⟩:=F.ex
 exact .all (h kV doc pm an cdv ct)
theorem mW {x qual:Str}{st:Stmt}{f:Addr}{oc:Value}{od an:Option Addr}{osl:Array (Option Value)}{kV doc pm cdv ct:Value} (l:K.lookup f=some ⟨oc,od,.func (W.fnOf x qual (aC st) (au st) (ad st) .none kV doc pm an cdv ct),osl⟩)
  (c:W.codeIn K cdv qual=true) (k:W.keepIn K (.ref f)=true):Fun K x qual st f (W.fnOf x qual (aC st) (au st) (ad st) .none kV doc pm an cdv ct):=⟨⟨oc,od,kV,doc,pm,an,cdv,ct,osl,rfl,l,c⟩,k⟩
end
theorem vB {A:Around}{k:Nat} (hr:Room k A):A.units+1<cLine:=Nat.lt_of_le_of_lt (Nat.add_le_add_left (by decide:1<=64) _) hr.units
section
variable {X:Cx}
theorem pv (i:Nat) {x:Str}{pos:Pos} (hN:X.N[i]?=some x:=by rfl) (hv:Vis X.env.scope x:=by first | exact Or.inl rfl | exact Or.inr (Or.inl rfl) | exact Or.inr (Or.inr rfl)) (hd:(x==("__debug__":Str))=false:=by decide)
  (hcd:(x==("__classdict__":Str))=false:=by decide):PE X (.Name x pos) (jb i):=yi hN hv hd hcd
end
theorem yI {A B:Prop} (h:A):if true=true then A else B:=by
 rw[if_pos rfl]
 exact h
theorem ite2 {c A B:Prop} [Decidable c] (h1:c->A) (h2:¬c->B):if c then A else B:=by
 by_cases h:c
 ·rw[if_pos h]
  exact h1 h
 ·rw[if_neg h]
  exact h2 h
def Same (H H':Hp):Prop:=∀b o,H b=some o->H' b=some o
theorem Same.refl (H:Hp):Same H H:=fun _ _ h=>h
theorem Same.trans {H H1 H2:Hp} (a:Same H H1) (b:Same H1 H2):Same H H2:=fun c o h=>b c o (a c o h)
theorem Same.free {H H':Hp} (e:Same H H') {l:Addr} (h:H' l=Option.none):H l=Option.none:=by
 cases q:H l with
 | none=>rfl
 | some o =>
  rw[e l o q] at h
  cases h
theorem Same.seq {K:W.Frag}{H H':Hp}{a:Addr}{xs:List V} (e:Same H H') (h:SqL K H a xs):SqL K H' a xs:=by
 rcases h with (h | ⟨o,h⟩) | h
 ·exact .inl (.inl (e _ _ h))
 ·exact .inl (.inr ⟨o,e _ _ h⟩)
 ·exact .inr h
section
variable {κ:Type} [DecidableEq κ]
theorem na {kvs:List (κ×V)}{k:κ} (h:bN kvs k=none):¬k∈kvs.map (·.1):=by
 intro m
 obtain⟨p,hp,e⟩:=List.mem_map.mp m
 have q:(kvs.any fun kv=>decide (kv.1=k))=true:=List.any_eq_true.mpr ⟨p,hp,decide_eq_true e⟩
 rw[bX,h] at q
 exact absurd q (by simp)
theorem wf {kvs:List (κ×V)}{k:κ}{v:V} (h:bN kvs k=some v):k∈kvs.map (·.1):=by
 have q:(kvs.any fun kv=>decide (kv.1=k))=true:=by
  rw[bX,h]
  all_goals rfl
 obtain⟨p,hp,e⟩:=List.any_eq_true.mp q
 exact List.mem_map.mpr ⟨p,hp,of_decide_eq_true e⟩
end
theorem Same.made {H H1:Hp}{x dx C:Addr} (nx:H x=Option.none) (nd:H dx=Option.none) (k:∀b o,(upd (upd H dx (.own x)) x (.ins C dx [])) b=some o->b≠x->H1 b=some o):Same H H1:=fun b o e =>
 k b o (by rw[ai (af e nx),ai (af e nd)];exact e) (af e nx)
end L2
end
section
set_option maxRecDepth 100000
set_option maxHeartbeats 2000000
namespace L2
open PySem PySem.Spec PyProof.Rows
open PySem.W (WData Codec OpenSpec Well WellAll ReadsW ReadsAllW)
mutual
inductive Dw (K:W.Frag) (H:Hp):V->WData->Prop
 | non:Dw K H .non .none
 | bl (b:Bool):Dw K H (.bl b) (.bool b)
 | int (i:Int):Dw K H (.int i) (.int i)
 | str (x:Str):Dw K H (.str x) (.str x)
 | byt (b:Array UInt8):Dw K H (.byt b) (.bytes b.toList)
 | lst {a:Addr}{xs:List V}{ds:List WData}:SqL K H a xs->DwAll K H xs ds->Dw K H (.ref a) (.list ds)
 | tup {a:Addr}{xs:List V}{ds:List WData}:SqT K H a xs->DwAll K H xs ds->Dw K H (.ref a) (.tuple ds)
inductive DwAll (K:W.Frag) (H:Hp):List V->List WData->Prop
 | nil:DwAll K H [] []
 | cons {v:V}{vs:List V}{d:WData}{ds:List WData}:Dw K H v d->DwAll K H vs ds->DwAll K H (v::vs) (d::ds)
end
theorem dw_ints {K:W.Frag}{H:Hp}:∀ns:List Int,DwAll K H (ns.map V.int) (ns.map WData.int)
 | []=>.nil
 | n::r=>.cons (.int n) (dw_ints r)
theorem ints_dw {K:W.Frag}{H:Hp}:∀(ns:List Int) (xs:List V),DwAll K H xs (ns.map WData.int)->xs=ns.map V.int
 | [],xs,h=>by
  cases h
  rfl
 | n::r,xs,h=>by
  cases h with
  | cons h1 h2 =>
   cases h1
   rw[ints_dw r _ h2] <;> rfl
section
variable {P:Program}{w:World}{K:W.Frag}{H:Hp}{h:Heap}{R:W.WRecords}{cl:Str->Option Addr}
theorem x9 {a:Addr}{xs:List V} (hok:HOk P w H h) (KX:K.In h) (q:SqL K H a xs):∃(its:List Value) (o:Obj) (n:Nat),Vals xs its/\h.get? a=some o/\o.cls=.type "list"/\o.data=.seq its.toArray n:=by
 rcases q with q | ⟨o,its,n,e,hc,_,hd,_,hv⟩
 ·obtain⟨_,its,n,hv,e⟩:=(show ObjOk P w H h a (.lst xs) from q.ok hok)
  exact⟨its,_,n,hv,e,rfl,rfl⟩
 ·exact⟨its.toList,o,n,hv,KX _ _ e,hc,by simp[hd]⟩
theorem x8 {a:Addr}{xs:List V} (hok:HOk P w H h) (KX:K.In h) (q:SqT K H a xs):∃(its:List Value) (o:Obj) (n:Nat),Vals xs its/\h.get? a=some o/\o.cls=.type "tuple"/\o.data=.seq its.toArray n:=by
 rcases q with q | ⟨o,its,n,e,hc,hd,_,hv⟩
 ·obtain⟨_,its,hv,o,e,hc,⟨n,hd⟩,_⟩:=(show ObjOk P w H h a (.tup xs) from q.ok hok)
  exact⟨its,o,n,hv,e,hc,hd⟩
 ·exact⟨its.toList,o,n,hv,KX _ _ e,hc,by simp[hd]⟩
mutual
theorem Dw.reads (hok:HOk P w H h) (KX:K.In h):∀(d:WData) (v:V) (u:Value),Dw K H v d->RelV v u->∃as,ReadsW R cl h u d as
 | .none,_,_,x,r=>by
  cases x
  cases r
  exact⟨_,ReadsW.none⟩
 | .bool b,_,_,x,r=>by
  cases x
  cases r
  exact⟨_,ReadsW.bool b⟩
 | .int i,_,_,x,r=>by
  cases x
  obtain⟨t,rfl⟩:=r
  exact⟨_,ReadsW.int i t⟩
 | .str s,_,_,x,r=>by
  cases x
  obtain⟨t,rfl⟩:=r
  exact⟨_,ReadsW.str s t⟩
 | .bytes b,_,_,x,r=>by
  cases x
  obtain⟨t,rfl⟩:=r
  exact⟨_,ReadsW.bytes _ t⟩
 | .list ds,_,_,x,r=>by
  cases x with
  | lst hs ha =>
   cases r
   obtain⟨its,o,n,rv,ho,hc,hd⟩:=x9 hok KX hs
   obtain⟨as,hr⟩:=Dw.readsAll hok KX ds _ its ha rv
   exact⟨_,ReadsW.list ho hc hd hr⟩
 | .tuple ds,_,_,x,r=>by
  cases x with
  | tup hs ha =>
   cases r
   obtain⟨its,o,n,rv,ho,hc,hd⟩:=x8 hok KX hs
   obtain⟨as,hr⟩:=Dw.readsAll hok KX ds _ its ha rv
   exact⟨_,ReadsW.tuple ho hc hd hr⟩
 | .float _,_,_,x,_=>by cases x
 | .dict _,_,_,x,_=>by cases x
 | .bytearray _,_,_,x,_=>by cases x
 | .set _,_,_,x,_=>by cases x
 | .frozenset _,_,_,x,_=>by cases x
 | .obj _ _,_,_,x,_=>by cases x
theorem Dw.readsAll (hok:HOk P w H h) (KX:K.In h):∀(ds:List WData) (vs:List V) (us:List Value),DwAll K H vs ds->Vals vs us->∃as,ReadsAllW R cl h us ds as
 | [],_,_,x,r=>by
  cases x
  cases r
  exact⟨_,ReadsAllW.nil⟩
 | d::ds,_,_,x,r=>by
  cases x with
  | cons h1 h2 =>
   cases r with
   | cons r1 r2 =>
    obtain⟨as,q1⟩:=Dw.reads hok KX d _ _ h1 r1
    obtain⟨bs,q2⟩:=Dw.readsAll hok KX ds _ _ h2 r2
    exact⟨_,ReadsAllW.cons q1 q2⟩
end
end
mutual
def plW:WData->Bool
 | .none=>true
 | .bool _=>true
 | .int _=>true
 | .str _=>true
 | .bytes _=>true
 | .list xs=>jc xs
 | .tuple xs=>jc xs
 | _=>false
def jc:List WData->Bool
 | []=>true
 | x::r=>plW x&&jc r
end
theorem nL {α:Type}{f:α->WData} (h:∀a,plW (f a)=true):∀l:List α,jc (l.map f)=true
 | []=>rfl
 | x::r=>by
  show (plW (f x)&&jc (r.map f))=true
  rw[h x,nL h r] <;> rfl
theorem dU:∀(c:Codec) (a:c.denote),plW (c.enc a)=true
 | .unit,_=>rfl
 | .bool,_=>rfl
 | .int _ _,_=>rfl
 | .nat _ _,_=>rfl
 | .u8,_=>rfl
 | .bytes _ _,_=>rfl
 | .text _ _ _ _,_=>rfl
 | .list _ _ c,a=>nL (fun x=>dU c x) a
 | .pair c d,a=>by
  show (plW (c.enc a.1)&&(plW (d.enc a.2)&&true))=true
  rw[dU c a.1,dU d a.2] <;> rfl
 | .triple c d e,a=>by
  show (plW (c.enc a.1)&&(plW (d.enc a.2.1)&&(plW (e.enc a.2.2)&&true)))=true
  rw[dU c a.1,dU d a.2.1,dU e a.2.2] <;> rfl
 | .option c,none=>rfl
 | .option c,some x=>dU c x
theorem lB:∀(cs:List Codec) (a:Codec.denoteAll cs),jc (Codec.encAll cs a)=true
 | [],_=>rfl
 | c::cs,a=>by
  show (plW (c.enc a.1)&&jc (Codec.encAll cs a.2))=true
  rw[dU c a.1,lB cs a.2] <;> rfl
theorem fu:∀{xs:List WData}{d:WData},d∈xs->d.weight<=WData.weightAll xs
 | [],d,h=>absurd h (by simp)
 | x::r,d,h=>by
  show d.weight<=x.weight+1+WData.weightAll r
  rcases List.mem_cons.mp h with e | m
  ·rw[e]
   omega
  ·have z:=fu m
   omega
def toV:Value->V
 | .none=>.non
 | .bool b=>.bl b
 | .int i _=>.int i
 | .str x _=>.str x
 | .bytes b _=>.byt b
 | .ref a=>.ref a
 | _=>.non
def OkU (A:List Addr):Value->Prop
 | .none=>True
 | .bool _=>True
 | .int _ _=>True
 | .str _ _=>True
 | .bytes _ _=>True
 | .ref a=>a∈A
 | _=>False
theorem OkU.mono {A B:List Addr} (h:∀a∈A,a∈B):∀{u:Value},OkU A u->OkU B u:=fun {u} x=>by
 cases u with
 | ref a=>exact h a x
 | none=>trivial
 | bool b=>trivial
 | int i t=>trivial
 | str s t=>trivial
 | bytes b t=>trivial
 | _=>exact False.elim x
theorem uB {A:List Addr}{u:Value} (x:OkU A u):RelV (toV u) u:=by
 cases u with
 | ref a=>rfl
 | none=>rfl
 | bool b=>rfl
 | int i t=>exact⟨t,rfl⟩
 | str s t=>exact⟨t,rfl⟩
 | bytes b t=>exact⟨t,rfl⟩
 | _=>exact False.elim x
theorem da {A:List Addr}:∀{vs:List Value},(∀u∈vs,OkU A u)->Vals (vs.map toV) vs
 | [],_=>.nil
 | u::r,h=>.cons (uB (h u (List.mem_cons_self ..))) (da fun x hx=>h x (List.mem_cons_of_mem _ hx))
def ArgOb (h:Heap) (A:List Addr) (a:Addr):Prop:=∃vs:List Value,vs.length<=sizeLine/\(∀u∈vs,OkU A u) /\
 (h.get? a=some {cls:=.type "list",data:=.seq vs.toArray}∨h.get? a=some {cls:=.type "tuple",data:=.seq vs.toArray})
theorem ArgOb.mono {h:Heap}{A B:List Addr}{a:Addr} (k:∀a∈A,a∈B) (x:ArgOb h A a):ArgOb h B a:=by
 obtain⟨vs,h1,h2,h3⟩:=x
 exact⟨vs,h1,fun u hu=>(h2 u hu).mono k,h3⟩
theorem cO {P:Params}{h:Heap}:∀{vs:List Value}{ds:List WData},WellAll P h vs ds->vs.length=ds.length
 | _,_,.nil=>rfl
 | _,_,.cons _ b=>by
  show _+1=_+1
  rw[cO b]
theorem lh {P:Params}{h:Heap}{v:Value}{ds:List WData} (x:Well P h v (.list ds)):∃(a:Addr) (vs:List Value),v=.ref a/\h.get? a=some {cls:=.type "list",data:=.seq vs.toArray}/\WellAll P h vs ds:=by
 cases x with
 | list ho hall=>exact⟨_,_,rfl,ho,hall⟩
theorem js {P:Params}{h:Heap}{v:Value}{ds:List WData} (x:Well P h v (.tuple ds)):∃(a:Addr) (vs:List Value),v=.ref a/\h.get? a=some {cls:=.type "tuple",data:=.seq vs.toArray}/\WellAll P h vs ds:=by
 cases x with
 | tuple ho hall=>exact⟨_,_,rfl,ho,hall⟩
theorem li {P:Params}{h:Heap}{us:List Value}{d:WData}{ds:List WData} (x:WellAll P h us (d::ds)):∃(v:Value) (vs:List Value),us=v::vs/\Well P h v d/\WellAll P h vs ds:=by
 cases x with
 | cons a b=>exact⟨_,_,rfl,a,b⟩
theorem qX {n:Nat} (h:n<=1048576):n<=sizeLine:=Nat.le_trans h (by decide)
section
variable {P:Params}{h:Heap}
mutual
theorem vW:∀(d:WData) (v:Value),Well P h v d->plW d=true->d.weight<=1048576->∃A:List Addr,OkU A v/\∀a∈A,ArgOb h A a
 | .none,_,x,_,_=>by
  cases x
  exact⟨[],trivial,fun a m=>absurd m (by simp)⟩
 | .bool b,_,x,_,_=>by
  cases x
  exact⟨[],trivial,fun a m=>absurd m (by simp)⟩
 | .int i,_,x,_,_=>by
  cases x
  exact⟨[],trivial,fun a m=>absurd m (by simp)⟩
 | .str s,_,x,_,_=>by
  cases x
  exact⟨[],trivial,fun a m=>absurd m (by simp)⟩
 | .bytes b,_,x,_,_=>by
  cases x
  exact⟨[],trivial,fun a m=>absurd m (by simp)⟩
 | .list ds,_,x,p,z=>by
  obtain⟨a,vs,rfl,ho,hall⟩:=lh x
  have z2:WData.weightAll ds<=1048576:=z
  obtain⟨A,h1,h2⟩:=hX ds _ hall p fun d hd=>Nat.le_trans (fu hd) z2
  have k:∀b∈A,b∈a::A:=fun b hb=>List.mem_cons_of_mem _ hb
  refine⟨a::A,List.mem_cons_self ..,fun b hb=>?_⟩
  rcases List.mem_cons.mp hb with e | m
  ·rw[e]
   exact⟨vs,qX (by rw[cO hall];exact Nat.le_trans (W.length_le_weightAllW ds) z2),fun u hu=>(h1 u hu).mono k,.inl ho⟩
  ·exact (h2 b m).mono k
 | .tuple ds,_,x,p,z=>by
  obtain⟨a,vs,rfl,ho,hall⟩:=js x
  have z2:WData.weightAll ds<=1048576:=z
  obtain⟨A,h1,h2⟩:=hX ds _ hall p fun d hd=>Nat.le_trans (fu hd) z2
  have k:∀b∈A,b∈a::A:=fun b hb=>List.mem_cons_of_mem _ hb
  refine⟨a::A,List.mem_cons_self ..,fun b hb=>?_⟩
  rcases List.mem_cons.mp hb with e | m
  ·rw[e]
   exact⟨vs,qX (by rw[cO hall];exact Nat.le_trans (W.length_le_weightAllW ds) z2),fun u hu=>(h1 u hu).mono k,.inr ho⟩
  ·exact (h2 b m).mono k
 | .float _,_,_,p,_=>Bool.noConfusion (show false=true from p)
 | .dict _,_,_,p,_=>Bool.noConfusion (show false=true from p)
 | .bytearray _,_,_,p,_=>Bool.noConfusion (show false=true from p)
 | .set _,_,_,p,_=>Bool.noConfusion (show false=true from p)
 | .frozenset _,_,_,p,_=>Bool.noConfusion (show false=true from p)
 | .obj _ _,_,_,p,_=>Bool.noConfusion (show false=true from p)
theorem hX:∀(ds:List WData) (vs:List Value),WellAll P h vs ds->jc ds=true->(∀d∈ds,d.weight<=1048576)->∃A:List Addr,(∀u∈vs,OkU A u)/\∀a∈A,ArgOb h A a
 | [],_,x,_,_=>by
  cases x
  exact⟨[],fun u m=>absurd m (by simp),fun a m=>absurd m (by simp)⟩
 | d::ds,_,x,p,z=>by
  obtain⟨v,vs,rfl,x1,x2⟩:=li x
  have q:plW d=true/\jc ds=true:=Bool.and_eq_true_iff.mp p
  obtain⟨A,a1,a2⟩:=vW d v x1 q.1 (z d (List.mem_cons_self ..))
  obtain⟨B,b1,b2⟩:=hX ds vs x2 q.2 fun e he=>z e (List.mem_cons_of_mem _ he)
  have kA:∀b∈A,b∈A++B:=fun b hb=>List.mem_append.mpr (.inl hb)
  have kB:∀b∈B,b∈A++B:=fun b hb=>List.mem_append.mpr (.inr hb)
  refine⟨A++B,fun u hu=>?_,fun b hb=>?_⟩
  ·rcases List.mem_cons.mp hu with e | m
   ·rw[e]
    exact a1.mono kA
   ·exact (b1 u m).mono kB
  ·rcases List.mem_append.mp hb with m | m
   ·exact (a2 b m).mono kA
   ·exact (b2 b m).mono kB
end
end
def xm (o:Obj):Option HO:=match o.data with
 | .seq vs _=>if (o.cls==Value.type "list")=true then some (.frz o (.lst (vs.toList.map toV))) else some (.frz o (.tup (vs.toList.map toV)))
 | _=>none
def argH (K:W.Frag) (h:Heap) (A:List Addr):Hp:=fun b=>if b∈A then (if (K.lookup b).isNone=true then (h.get? b).bind xm else none) else none
def pb (H:Hp):Prop:=∀b,H b=none∨∃o u,H b=some (.frz o u)
theorem ow (vs:List Value):xm {cls:=.type "list",data:=.seq vs.toArray}=some (.frz {cls:=.type "list",data:=.seq vs.toArray} (.lst (vs.map toV))):=by
 show (if (Value.type "list" == Value.type "list")=true then some (HO.frz {cls:=.type "list",data:=.seq vs.toArray} (.lst (vs.toArray.toList.map toV))) else some (HO.frz {cls:=.type "list",data:=.seq vs.toArray} (.tup (vs.toArray.toList.map toV))))=_
 rw[if_pos (beq_self_eq_true _)]
theorem ou (vs:List Value):xm {cls:=.type "tuple",data:=.seq vs.toArray}=some (.frz {cls:=.type "tuple",data:=.seq vs.toArray} (.tup (vs.map toV))):=by
 show (if (Value.type "tuple" == Value.type "list")=true then some (HO.frz {cls:=.type "tuple",data:=.seq vs.toArray} (.lst (vs.toArray.toList.map toV))) else some (HO.frz {cls:=.type "tuple",data:=.seq vs.toArray} (.tup (vs.toArray.toList.map toV))))=_
 rw[if_neg (by decide)]
section
variable {P:Program}{w:World}{K:W.Frag}{h:Heap}{A:List Addr}
theorem jr {b:Addr}{o:Obj} (hb:b∈A) (hk:K.lookup b=none) (e:h.get? b=some o):argH K h A b=xm o:=by
 unfold argH
 rw[if_pos hb,hk,if_pos (show (none:Option Obj).isNone=true from rfl),e] <;> rfl
theorem wS {b:Addr}{u:HO} (q:argH K h A b=some u):b∈A/\K.lookup b=none:=by
 unfold argH at q
 by_cases hb:b∈A
 ·rw[if_pos hb] at q
  cases hk:K.lookup b with
  | none=>exact⟨hb,rfl⟩
  | some o =>
   rw[hk,if_neg (by simp)] at q
   cases q
 ·rw[if_neg hb] at q
  cases q
theorem jq (ar:∀a∈A,ArgOb h A a) {b:Addr}{u:HO} (q:argH K h A b=some u):K.lookup b=none/\∃vs:List Value,vs.length<=sizeLine/\(∀u∈vs,OkU A u) /\
    ((h.get? b=some {cls:=.type "list",data:=.seq vs.toArray}/\u=.frz {cls:=.type "list",data:=.seq vs.toArray} (.lst (vs.map toV))) ∨
     (h.get? b=some {cls:=.type "tuple",data:=.seq vs.toArray}/\u=.frz {cls:=.type "tuple",data:=.seq vs.toArray} (.tup (vs.map toV)))):=by
  obtain⟨hb,hk⟩:=wS q
  obtain⟨vs,h1,h2,h3⟩:=ar b hb
  refine⟨hk,vs,h1,h2,?_⟩
  rcases h3 with e | e
  · rw[jr hb hk e,ow] at q
    exact .inl ⟨e,(Option.some.inj q).symm⟩
  · rw[jr hb hk e,ou] at q
    exact .inr ⟨e,(Option.some.inj q).symm⟩
theorem tU (ar:∀a∈A,ArgOb h A a):pb (argH K h A):=fun b=>by
 cases q:argH K h A b with
 | none=>exact .inl rfl
 | some u =>
  obtain⟨_,vs,_,_,⟨_,e⟩ | ⟨_,e⟩⟩:=jq ar q
  ·exact .inr ⟨_,_,by rw[e]⟩
  ·exact .inr ⟨_,_,by rw[e]⟩
theorem xA (ar:∀a∈A,ArgOb h A a):HOk P w (argH K h A) h:=fun b u q=>by
 obtain⟨_,vs,h1,h2,⟨e,rfl⟩ | ⟨e,rfl⟩⟩:=jq ar q
 ·exact⟨e,by rw[List.length_map];exact h1,vs,_,da h2,e⟩
 ·exact⟨e,by rw[List.length_map];exact h1,vs,da h2,_,e,rfl,⟨_,rfl⟩,rfl⟩
theorem jj {c c':Value}{vs us:List Value} (e:(some {cls:=c,data:=.seq vs.toArray}:Option Obj)=some {cls:=c',data:=.seq us.toArray}):c=c'/\vs=us:=by
 have e1:=Option.some.inj e
 have e2:c=c':=congrArg Obj.cls e1
 have e3:Data.seq vs.toArray=Data.seq us.toArray:=congrArg Obj.data e1
 injection e3 with e4
 refine⟨e2,?_⟩
 have e5:=congrArg Array.toList e4
 simpa using e5
theorem Ai (KX:K.In h) (ar:∀a∈A,ArgOb h A a) {a:Addr}{vs:List Value} (ha:a∈A) (e:h.get? a=some {cls:=.type "list",data:=.seq vs.toArray}):(∀u∈vs,OkU A u)/\SqL K (argH K h A) a (vs.map toV):=by
 obtain⟨us,h1,h2,h3⟩:=ar a ha
 have hu:us=vs:=by
  rcases h3 with q | q
  ·rw[e] at q
   exact (jj q).2.symm
  ·rw[e] at q
   exact absurd (Value.type.inj (jj q).1) (by decide)
 subst hu
 refine⟨h2,?_⟩
 cases hk:K.lookup a with
 | none=>exact .inl (.inr ⟨_,by rw[jr ha hk e,ow]⟩)
 | some o =>
  have e2:=KX a o hk
  rw[e] at e2
  obtain rfl:=Option.some.inj e2
  exact .inr ⟨_,us.toArray,_,hk,rfl,rfl,rfl,by rw[List.size_toArray];exact h1,by simpa using da h2⟩
theorem Ah (KX:K.In h) (ar:∀a∈A,ArgOb h A a) {a:Addr}{vs:List Value} (ha:a∈A) (e:h.get? a=some {cls:=.type "tuple",data:=.seq vs.toArray}):(∀u∈vs,OkU A u)/\SqT K (argH K h A) a (vs.map toV):=by
 obtain⟨us,h1,h2,h3⟩:=ar a ha
 have hu:us=vs:=by
  rcases h3 with q | q
  ·rw[e] at q
   exact absurd (Value.type.inj (jj q).1) (by decide)
  ·rw[e] at q
   exact (jj q).2.symm
 subst hu
 refine⟨h2,?_⟩
 cases hk:K.lookup a with
 | none=>exact .inl (.inr ⟨_,by rw[jr ha hk e,ou]⟩)
 | some o =>
  have e2:=KX a o hk
  rw[e] at e2
  obtain rfl:=Option.some.inj e2
  exact .inr ⟨_,us.toArray,_,hk,rfl,rfl,by rw[List.size_toArray];exact h1,by simpa using da h2⟩
mutual
theorem yO {Pm:Params} (KX:K.In h) (ar:∀a∈A,ArgOb h A a):∀(d:WData) (v:Value),Well Pm h v d->plW d=true->OkU A v->Dw K (argH K h A) (toV v) d
 | .none,_,x,_,_=>by
  cases x
  exact .non
 | .bool b,_,x,_,_=>by
  cases x
  exact .bl b
 | .int i,_,x,_,_=>by
  cases x
  exact .int i
 | .str s,_,x,_,_=>by
  cases x
  exact .str s
 | .bytes b,_,x,_,_=>by
  cases x
  have z:=Dw.byt (K:=K) (H:=argH K h A) b.toArray
  exact z
 | .list ds,_,x,p,hu=>by
  obtain⟨a,vs,rfl,ho,hall⟩:=lh x
  obtain⟨h2,hs⟩:=Ai KX ar hu ho
  exact .lst hs (mY KX ar ds _ hall p h2)
 | .tuple ds,_,x,p,hu=>by
  obtain⟨a,vs,rfl,ho,hall⟩:=js x
  obtain⟨h2,hs⟩:=Ah KX ar hu ho
  exact .tup hs (mY KX ar ds _ hall p h2)
 | .float _,_,_,p,_=>Bool.noConfusion (show false=true from p)
 | .dict _,_,_,p,_=>Bool.noConfusion (show false=true from p)
 | .bytearray _,_,_,p,_=>Bool.noConfusion (show false=true from p)
 | .set _,_,_,p,_=>Bool.noConfusion (show false=true from p)
 | .frozenset _,_,_,p,_=>Bool.noConfusion (show false=true from p)
 | .obj _ _,_,_,p,_=>Bool.noConfusion (show false=true from p)
theorem mY {Pm:Params} (KX:K.In h) (ar:∀a∈A,ArgOb h A a):∀(ds:List WData) (vs:List Value),WellAll Pm h vs ds->jc ds=true->(∀u∈vs,OkU A u)->DwAll K (argH K h A) (vs.map toV) ds
 | [],_,x,_,_=>by
  cases x
  exact .nil
 | d::ds,_,x,p,hu=>by
  obtain⟨v,vs,rfl,x1,x2⟩:=li x
  have q:plW d=true/\jc ds=true:=Bool.and_eq_true_iff.mp p
  exact .cons (yO KX ar d v x1 q.1 (hu _ (List.mem_cons_self ..))) (mY KX ar ds vs x2 q.2 fun u m=>hu u (List.mem_cons_of_mem _ m))
end
end
theorem rS {P:Program}{w:World}{K:W.Frag}{mg mb:Str->Option Value}{CX:CXT}{k:Nat}{fa:Addr}{fd:FuncData}{ps:List Str}{sp:Sp}{s₁:Shared}{vals:List Value}{ds:List WData}{R:W.WRecords}{cl:Str->Option Addr}{d0:WData}
  (KX:K.In s₁.heap) (hns:s₁.heap.Ns mainGlobals mg) (hb:s₁.heap.Ns builtinsNs mb) (hbb:∀x:Str,x ≠ "__name__"->mb x=bootBuiltins x) (hlim:s₁.heap.NoLimit) (hg:s₁.gens=#[])
  (hwl:WellAll w.params s₁.heap vals ds) (hpl:jc ds=true) (hwt:∀d∈ds,d.weight<=1048576) (hr:Room k callerA)
  (F:∀base:Heap,K.In base->base.Ns mainGlobals mg->FnOk P w K mg base CX k fa fd ps sp) (hbind:∀(s:Shared) (us:List Value),us.length=ps.length->BindsTo s fd ⟨us,[]⟩ (ps.zip us)) (hlen:ds.length=ps.length)
  (hsp:∀(H:Hp) (xs:List V),pb H->DwAll K H xs ds->sp xs H (fun v H'=>Dw K H' v d0) fun _ _ _=>False)
  (hCX:∀H e s',CX [] H s₁ (fun _ _ _=>False) e s'->False) :
  codeAny (model P w) callerA (.call (.ref fa) ⟨vals,[]⟩) (fun r s'=>∃u as,r=.ok (.ret u)/\ReadsW R cl s'.heap u d0 as/\OldK s₁.heap s'.heap/\s'.os=s₁.os/\AllBare s'.gens) s₁:=by
 obtain⟨A,ho,ar⟩:=hX ds vals hwl hpl hwt
 have hO:pb (argH K s₁.heap A):=tU ar
 have hok:HOk P w (argH K s₁.heap A) s₁.heap:=xA ar
 have hS:=mY KX ar ds vals hwl hpl ho
 have hV:=da ho
 have hK:∀b u,argH K s₁.heap A b=some u->K.lookup b=none:=fun b u q=>(jq ar q).1
 have noA:∀{b:Addr}{o:Obj}{es:Array DictEntry}{ep:Nat},s₁.heap.get? b=some o->o.data=.dict es ep->argH K s₁.heap A b=none:=fun {b o es ep} e d=>by
  cases q:argH K s₁.heap A b with
  | none=>rfl
  | some u =>
   obtain⟨_,vs,_,_,⟨e2,_⟩ | ⟨e2,_⟩⟩:=jq ar q
   ·rw[e2] at e
    cases e
    have d':Data.seq vs.toArray _=Data.dict es ep:=d
    cases d'
   ·rw[e2] at e
    cases e
    have d':Data.seq vs.toArray _=Data.dict es ep:=d
    cases d'
 generalize argH K s₁.heap A=H at hO hok hS hK noA
 have base_of:∀{b:Addr}{o:Obj},s₁.heap.get? b=some o->H b=none->(mU s₁.heap H).get? b=some o:=fun e n=>vC e n
 have nsK:∀{b:Addr}{m:Str->Option Value},s₁.heap.Ns b m->(mU s₁.heap H).Ns b m:=fun {b m} ⟨o,es,ep,e,d,r⟩=>⟨o,es,ep,base_of e (noA e d),d,r⟩
 have nK:∀b o,K.lookup b=some o->H b=none:=fun b o e=>by
  cases q:H b with
  | none=>rfl
  | some u =>
   rw[hK b u q] at e
   cases e
 have hKb:K.In (mU s₁.heap H):=fun b o e=>base_of (KX b o e) (nK b o e)
 have hM:Mod K mg (mU s₁.heap H):=⟨hKb,nsK hns,⟨mb,nsK hb,hbb⟩,let ⟨mc,h1,h2⟩:=hlim;⟨mc,nsK h1,h2⟩⟩
 have e0:Env0 P w K mg (mU s₁.heap H) callerA [] s₁ H:=⟨rfl,hM,fun b o e=>wR e,Nat.le_of_eq (tw _ _),trivial,fun b hb=>absurd (show b∈([]:List Addr) from hb) (by simp),hok,.of_eq hg⟩
 have hl:vals.length=ps.length:=by rw[cO hwl];exact hlen
 refine codeAny_mono ((F _ hKb (nsK hns)).run callerA [] s₁ H ⟨vals,[]⟩ vals (vals.map toV) _ _ hr e0 (hbind s₁ vals hl) hV (hsp H _ hO hS)) fun r s' x=>?_
 cases r with
 | error e=>exact (hCX H e s' x).elim
 | ok fl =>
  cases fl with
  | next=>exact False.elim x
  | brk=>exact False.elim x
  | cont=>exact False.elim x
  | ret u =>
   obtain⟨v,H',os,bare,un,hok',r',q⟩:=x
   have kept:∀b o,s₁.heap.get? b=some o->s'.heap.get? b=some o:=fun b o e=>by
    cases q2:H b with
    | none=>exact un.keep b o e q2 (by intro z;exact absurd (show b∈([]:List Addr) from z) (by simp)) (by simp)
    | some u2 =>
     rcases hO b with z | ⟨ob,u3,z⟩
     ·rw[q2] at z
      cases z
     ·have z2:=un.frzs b ob _ z
      obtain⟨e1,_⟩:=hok b _ z
      obtain⟨e2,_⟩:=hok' b _ z2
      rw[e] at e1
      cases e1
      exact e2
   have KX':K.In s'.heap:=fun b o e=>kept b o (KX b o e)
   obtain⟨as,hrd⟩:=Dw.reads (R:=R) (cl:=cl) hok' KX' d0 v u q r'
   exact⟨u,as,rfl,hrd,OldK.of_keep kept,os,bare⟩
theorem j8 {ds:List WData} (h:WData.layableAll ds=true):∀d∈ds,d.weight<=1048576:=fun d hd =>
 (W.layableW_iff.mp (List.all_eq_true.mp h d hd)).2.2
theorem kr:∀(cs:List Codec) (a:Codec.denoteAll cs),(Codec.encAll cs a).length=cs.length
 | [],_=>rfl
 | c::cs,a=>by
  show (Codec.encAll cs a.2).length+1=cs.length+1
  rw[kr cs a.2]
theorem rJ {r:OpenSpec}{k:Nat}{q:Program}{loose:List Str}{XP:(Str->Option Value)->Heap->Prop}{YP:World->Heap->Prop}{d:DefRec}{K:Params->W.Frag}{CX:World->CXT}{ps:List Str}{sp:World->Sp}
  (hwell:r.wellSaid=true) (hdf:d.params.defaults=[]) (hlen:r.args.length=ps.length) (hr:Room k callerA)
  (hY:∀(w:World) (h:Heap),YP w h->(K w.params).In h)
  (F:∀(w:World) (mg:Str->Option Value) (fa:Addr) (h:Heap),YP w h->(K w.params).In h->h.Ns mainGlobals mg->mg d.name=some (.ref fa) ->
   ∃fd:FuncData,(∀(s:Shared) (us:List Value),us.length=ps.length->BindsTo s fd ⟨us,[]⟩ (ps.zip us)) /\
    ∀base:Heap,(K w.params).In base->base.Ns mainGlobals mg->FnOk r.prog w (K w.params) mg base (CX w) k fa fd ps (sp w))
  (hsp:∀(w:World) (H:Hp) (xs:List V) (a:Codec.denoteAll r.args),pb H->Codec.withinAll r.args a=true->Codec.app r.args r.asked a=true->DwAll (K w.params) H xs (Codec.encAll r.args a) ->
   sp w xs H (fun v H'=>Dw (K w.params) H' v (r.ret.enc (Codec.app r.args r.f a))) fun _ _ _=>False)
  (hCX:∀(w:World) (H:Hp) (s:Shared) (e:Value) (s':Shared),CX w [] H s (fun _ _ _=>False) e s'->False) :
  W.WalkOS q loose XP YP r d [] (fun f vs=>PySem.call f vs):=by
 intro w s_0 s₁ mg mb G Y fa o pm cd doc dV kV ho hd hcd hD hmg hg args vals as hpre hlay hrd hwl hlo
 obtain⟨a,e1,e2⟩:=W.os_pre_some hpre
 obtain⟨e3,hwi⟩:=Codec.encAll_of_decAll r.args args a e1
 subst e3
 have KX:=hY w _ Y
 obtain⟨fd,hb,hF⟩:=F w mg fa _ Y KX G.T.g hmg
 refine W.enter_call (codeAny_mono (rS (R:=[]) (cl:=classAt s_0.heap) (d0:=r.ret.enc (Codec.app r.args r.f a)) KX G.T.g G.T.b G.T.builtins G.T.nolimit hg hwl (lB _ _) (j8 hlay) hr hF hb (by rw[kr];exact hlen)
  (fun H xs hO hS=>hsp w H xs a hO hwi e2 hS) fun H e s'=>hCX w H s₁ e s') fun r' s' hq=>?_)
 obtain⟨u,as',rfl,h1,h2,h3,h4⟩:=hq
 exact⟨.inl ⟨u,_,as',rfl,fun _=>rfl,h1,(OpenSpec.post_iff hwell hwi _ _).mpr rfl,fun z=>Bool.noConfusion (show false=true from z)⟩,h2,h3,h4⟩
theorem walk_specK {r:OpenSpec}{k:Nat}{q:Program}{loose:List Str}{XP:(Str->Option Value)->Heap->Prop}{YP:World->Heap->Prop}{d:DefRec}{K:Params->W.Frag}{CX:CXT}{ps:List Str}{sp:W.Frag->Sp}
  (hwell:r.wellSaid=true) (hdf:d.params.defaults=[]) (hlen:r.args.length=ps.length) (hr:Room k callerA)
  (hY:∀(w:World) (h:Heap),YP w h->(K w.params).In h)
  (F:∀(w:World) (mg:Str->Option Value) (fa:Addr) (h:Heap),YP w h->(K w.params).In h->h.Ns mainGlobals mg->mg d.name=some (.ref fa) ->
   ∃fd:FuncData,(∀(s:Shared) (us:List Value),us.length=ps.length->BindsTo s fd ⟨us,[]⟩ (ps.zip us)) /\
    ∀base:Heap,(K w.params).In base->base.Ns mainGlobals mg->FnOk r.prog w (K w.params) mg base CX k fa fd ps (sp (K w.params)))
  (hsp:∀(K:W.Frag) (H:Hp) (xs:List V) (a:Codec.denoteAll r.args),pb H->Codec.withinAll r.args a=true->Codec.app r.args r.asked a=true->DwAll K H xs (Codec.encAll r.args a) ->
   sp K xs H (fun v H'=>Dw K H' v (r.ret.enc (Codec.app r.args r.f a))) fun _ _ _=>False)
  (hCX:∀(H:Hp) (s:Shared) (e:Value) (s':Shared),CX [] H s (fun _ _ _=>False) e s'->False) :
  W.WalkOS q loose XP YP r d [] (fun f vs=>PySem.call f vs) :=
 rJ (K:=K) (CX:=fun _=>CX) (sp:=fun w=>sp (K w.params)) hwell hdf hlen hr hY F (fun w H xs a h1 h2 h3 h4=>hsp (K w.params) H xs a h1 h2 h3 h4) fun _ H s e s'=>hCX H s e s'
def Air (B:Heap) (l:List Env) (e:Addr) (cls a0:Value) (h:Heap):Prop :=
 B.StaysIn h/\B.get? e=none/\h.FunFrames B l/\∃fl,h.TracedAtW B e cls a0 fl
section
variable {M:Model}{A:Around}{E:Value->Shared->Prop}{s:Shared}{B:Heap}{env:Env}{outer:List Env}{L e:Addr}{cls a0:Value}{Q:Unit->Shared->Prop}
theorem Air.of_fly {h:Heap}{l:List Env} (x:Heap.FlyingW B l e cls a0 h):Air B l e cls a0 h:=⟨x.1,x.2.1,x.2.2.1,_,x.2.2.2.at⟩
theorem iJ (hfr:A.frames=some (env::outer)) (hf:env.frame=some L) (x:Air B (env::outer) e cls a0 s.heap)
  (h:∀h',Air B (env::outer) e cls a0 h'->s.heap.UpToSlots h'->Q () {s with heap:=h'}):wpAny M A (noteFrame (.ref e) env) Q E s:=by
 obtain⟨hkb,hen,hl,fl,ht⟩:=x
 by_cases hfl:fl=rawInt L
 ·subst hfl
  exact wpAny_noteFrame_againW hf ht (h s.heap ⟨hkb,hen,hl,_,ht⟩ (Heap.UpToSlots.refl _))
 ·obtain⟨oe,vs,T,oT,ts,he,⟨hcls,h0⟩,hd,h1,hnT,hTe,hT,hdT,h3⟩:=ht
  subst hcls
  unfold noteFrame
  simp only[hf]
  refine wpAny_bind (wpAny_field he hd h1 ?_)
  rw[if_pos (show (Value.ref T != Value.none)=true from by simp)]
  refine wpAny_bind (wpAny_field hT hdT h3 ?_)
  rw[if_neg (show ¬((fl==rawInt L)=true) from by simpa using hfl)]
  refine wpAny_bind (wpAny_setField hT hdT (Array.getElem?_eq_some_iff.mp h3).1 ?_)
  have other:∀b,b≠T->(s.heap.update T (Obj.mapFields (·.setIfInBounds 3 Value.none))).get? b=s.heap.get? b:=fun b hb=>Heap.get?_update_other _ _ (Ne.symm hb)
  have noRecord:∀b o,s.heap.get? b=some o->(∀vs,o.data≠.fields vs)->b≠T:=fun b o hb hnf q=>by
   rw[q,hT] at hb;injection hb with hb;subst hb;exact hnf ts hdT
  refine wpAny_entryW hfr (hl.of_keeps fun b o hb hnf=>⟨o,(other b (noRecord b o hb hnf)).trans hb,rfl⟩) hf ((other e (Ne.symm hTe)).trans he)
   (fun b o hbo=>(other b fun q=>by rw[q,hnT] at hbo;cases hbo).trans (hkb b o hbo)) hen hd (Array.getElem?_eq_some_iff.mp h1).1 h0
   fun h' ⟨x1,x2,x3,x4⟩=>h h' ⟨x1,hen,x2,_,x3⟩ fun b o hb hnf=>x4 b o ((other b (noRecord b o hb hnf)).trans hb) hnf
theorem iK {l:List Env} (x:Air B l e cls a0 s.heap) (h:∀h',Heap.FlyingW B l e cls a0 h'->s.heap.UpToSlots h'->Q () {s with heap:=h'}):wpAny M A (setFlight (.ref e) none) Q E s:=by
 obtain⟨f1,f2,f3,fl,f4⟩:=x
 exact wpAny_setFlight_noneW f1 f3 f4 fun h' k1 k2 k3 k4=>h h' ⟨k1,f2,k2,k3⟩ fun b o hb hn=>⟨o.slots,k4 b o hb hn⟩
theorem kL (hfr:A.frames=some (env::outer)) (hf:env.frame=some L) (x:Air B (env::outer) e cls a0 s.heap)
  (h:∀h',Air B outer e cls a0 h'->s.heap.UpToSlots h'->Q () {s with heap:=h'}):wpAny M A (leaving env (.ref e)) Q E s:=by
 unfold leaving
 refine wpAny_bind (iJ hfr hf x fun h1 x1 u1=>?_)
 refine iK x1 fun h2 x2 u2=>?_
 obtain⟨k1,k2,⟨_,_,k3⟩,k4⟩:=x2
 exact h h2 ⟨k1,k2,k3,_,k4.at⟩ (u1.trans u2)
theorem qf {l:List Env}{f:Option Addr} (x:Air B l e cls a0 s.heap) (h:∀h',Air B l e cls a0 h'->s.heap.UpToSlots h'->Q () {s with heap:=h'}):wpAny M A (setFlight (.ref e) f) Q E s:=by
 obtain⟨hkb,f2,hl,fl,⟨oe,vs,T,oT,ts,he,hcls,hd,h1,hnT,hTe,hT,hdT,h3⟩⟩:=x
 have hsz3:3<ts.size:=(Array.getElem?_eq_some_iff.mp h3).1
 have other:∀b,b≠T->(s.heap.update T (Obj.mapFields (·.setIfInBounds 3 (f.elim Value.none fun f=>rawInt f)))).get? b=s.heap.get? b :=
  fun b hb=>Heap.get?_update_other _ _ (Ne.symm hb)
 have noRecord:∀b o,s.heap.get? b=some o->(∀vs,o.data≠.fields vs)->b≠T:=fun b o hb hnf q=>by
  rw[q,hT] at hb;injection hb with hb;subst hb;exact hnf ts hdT
 unfold setFlight
 refine wpAny_bind (wpAny_field he hd h1 ?_)
 rw[if_pos (show (Value.ref T != Value.none)=true from by simp)]
 refine wpAny_setField hT hdT hsz3 (h _ ⟨fun b o hbo=>(other b fun q=>by rw[q,hnT] at hbo;cases hbo).trans (hkb b o hbo),f2,
  hl.of_keeps fun b o hb hnf=>⟨o,(other b (noRecord b o hb hnf)).trans hb,rfl⟩,(f.elim Value.none fun f=>rawInt f),?_⟩ fun b o hb hnf=>⟨o.slots,(other b (noRecord b o hb hnf)).trans hb⟩)
 exact⟨oe,vs,T,_,_,(other e (Ne.symm hTe)).trans he,hcls,hd,h1,hnT,hTe,Heap.get?_update_self _ hT (Obj.isFreed_of_fields (Obj.data_mapFields hdT _)),Obj.data_mapFields hdT _,by simp[hsz3]⟩
theorem qe {α:Type}{l:List Env}{what:String}{cenv:Env}{Qa:α->Shared->Prop} (x:Air B l e cls a0 s.heap) (h:∀h',Air B l e cls a0 h'->s.heap.UpToSlots h'->E (.ref e) {s with heap:=h'}) :
  wpAny M A (PySem.passOn what (.ref e) cenv:Sem α) Qa E s:=by
 have x':=x
 obtain⟨_,_,_,fl,⟨oe,vs,T,oT,ts,he,hcls,hd,h1,hnT,hTe,hT,hdT,h3⟩⟩:=x'
 unfold PySem.passOn
 refine wpAny_bind (wpAny_field he hd h1 ?_)
 have step:wpAny M A (do setFlight (.ref e) cenv.frame;throw (.ref e):Sem α) Qa E s:=by
  refine wpAny_bind (qf x fun h' x1 u1=>?_)
  exact wpAny_throw (h h' x1 u1)
 first
  | exact step
  | (rw[if_neg (show ¬((Value.ref T==Value.none)=true) from by simp)];first | exact step | exact wpAny_bind (wpAny_pure step))
theorem kW {env env':Env} (h:env'.frame=env.frame) (v:Value):noteFrame v env'=noteFrame v env:=by
 unfold noteFrame PySem.frameOf
 rw[h]
end
structure Fly (P:Program) (w:World) (C:Addr) (outer:List Env) (H:Hp) (s:Shared) (ea:Addr) (a0:Value) (H':Hp) (B:Heap) (s':Shared):Prop where
 air:Air B outer ea (.ref C) a0 s'.heap
 os:s'.os=s.os
 bare:AllBare s'.gens
 keep:∀b o,s.heap.get? b=some o->H b=none->b∉frs outer->B.get? b=some o
 slot:∀b o,s.heap.get? b=some o->H b=none->b∈frs outer->∃sl,s'.heap.get? b=some {o with slots:=sl}
 free:∀b o,s.heap.get? b=some o->H b=none->H' b=none
 there:∀b o,s.heap.get? b=some o->b∉frs outer->∃o',B.get? b=some o'
 tups:∀b xs,H b=some (.tup xs)->H' b=some (.tup xs)
 frzs:∀b o u,H b=some (.frz o u)->H' b=some (.frz o u)
 tbls:∀b ps,H b=some (.tbl ps)->∃more,H' b=some (.tbl (ps++more))
 hok:HOk P w H' B
def CXF (P:Program) (w:World) (C:Addr):CXT:=fun outer H s E e s'=>∃(ea:Addr) (a0:Value) (H':Hp) (B:Heap),e=.ref ea/\Fly P w C outer H s ea a0 H' B s'/\E (.ref C) none H'
section
variable {P:Program}{w:World}{C:Addr}{outer:List Env}{H H':Hp}{s s':Shared}{ea:Addr}{a0:Value}{B:Heap}
theorem Fly.later (F:Fly P w C outer H s ea a0 H' B s') {h':Heap} (x:Air B outer ea (.ref C) a0 h') (u:s'.heap.UpToSlots h'):Fly P w C outer H s ea a0 H' B {s' with heap:=h'}:=by
 refine⟨x,F.os,F.bare,F.keep,fun b o e n hb=>?_,F.free,F.there,F.tups,F.frzs,F.tbls,F.hok⟩
 obtain⟨sl,e1⟩:=F.slot b o e n hb
 obtain⟨_,o2,ho2,hnf⟩:=F.air.2.2.1.mem (b:=b) hb
 rw[e1] at ho2
 cases ho2
 obtain⟨sl2,e2⟩:=u b _ e1 hnf
 exact⟨sl2,e2⟩
theorem Fly.un (F:Fly P w C outer H s ea a0 H' B s'):Un (frs outer) [] H H' s.heap s'.heap:=by
 refine⟨fun b o e n hb _=>F.air.1 b o (F.keep b o e n hb),fun b o e n hb _=>F.slot b o e n hb,fun b o e n _=>F.free b o e n,fun b o e _=>?_,F.tups,F.frzs,F.tbls⟩
 by_cases hb:b∈frs outer
 ·obtain⟨_,o2,ho2,_⟩:=F.air.2.2.1.mem (b:=b) hb
  exact⟨o2,ho2⟩
 ·obtain⟨o',e'⟩:=F.there b o e hb
  exact⟨o',F.air.1 b o' e'⟩
theorem Fly.held (F:Fly P w C outer H s ea a0 H' B s'):HOk P w H' s'.heap:=F.hok.kept F.air.1
end
section
variable {P:Program}{w:World}{K:W.Frag}{mg:Str->Option Value}{base:Heap}{N:List Str}{qual:Str}{sc:Scope}{f:Addr}{cd:Value}{A:Around}{outer:List Env}{s0:Shared}{H0:Hp}{E:XK}{C:Addr}
theorem xw {X:Cx}{pins:List (Addr×Obj)}{σ:St}{H H':Hp}{s s':Shared}{ea:Addr}{a0:Value}{B:Heap}{h':Heap} (I:Inv X pins σ H s) (hex:X.ex=[]) (hst:X.stack=X.env::X.outer)
  (F:Fly X.prog X.w C X.stack H s ea a0 H' B s') (x:Air B X.outer ea (.ref C) a0 h') (u:s'.heap.UpToSlots h'):Fly X.prog X.w C X.outer X.H_0 X.s_0 ea a0 H' B {s' with heap:=h'}:=by
 have hn:∀b:Addr,b∉X.ex:=fun b z=>by rw[hex] at z;exact absurd z (by simp)
 have nst:∀b o,X.s_0.heap.get? b=some o->b∉frs X.outer->b∉frs X.stack:=fun b o e hb hm=>by
  rcases List.mem_cons.mp (I.stkSub b hm) with z | z
  ·exact absurd (Nat.lt_of_lt_of_le (Heap.lt_size e) I.ok.above) (by rw[z];exact Nat.lt_irrefl _)
  ·exact hb z
 have ist:∀b,b∈frs X.outer->b∈frs X.stack:=fun b hb=>by
  rw[hst]
  unfold frs at hb ⊢
  rw[List.filterMap_cons]
  split
  ·exact hb
  ·exact List.mem_cons_of_mem _ hb
 refine⟨x,F.os.trans I.os,F.bare,fun b o e n hb=>?_,fun b o e n hb=>?_,fun b o e n=>?_,fun b o e hb=>?_,fun b xs e=>F.tups b xs (I.base.tups b xs e),fun b o v e=>F.frzs b o v (I.base.frzs b o v e),fun b ps e=>?_,F.hok⟩
 ·exact F.keep b o (I.base.keep b o e n hb (hn b)) (I.base.free b o e n (hn b)) (nst b o e hb)
 ·obtain⟨sl,e1⟩:=I.base.slot b o e n hb (hn b)
  obtain⟨sl1,e2⟩:=F.slot b _ e1 (I.base.free b o e n (hn b)) (ist b hb)
  obtain⟨_,o2,ho2,hnf⟩:=F.air.2.2.1.mem (b:=b) (ist b hb)
  rw[e2] at ho2
  cases ho2
  obtain⟨sl2,e3⟩:=u b _ e2 hnf
  exact⟨sl2,e3⟩
 ·obtain⟨o',e1⟩:=I.base.there b o e (hn b)
  exact F.free b o' e1 (I.base.free b o e n (hn b))
 ·obtain⟨o',e1⟩:=I.base.there b o e (hn b)
  exact F.there b o' e1 (nst b o e hb)
 ·obtain⟨m1,e1⟩:=I.base.tbls b ps e
  obtain⟨m2,e2⟩:=F.tbls b _ e1
  exact⟨m1++m2,by rw[e2,Array.append_assoc]⟩
theorem vJ {X:Cx}{pins:List (Addr×Obj)}{σ:St}{H:Hp}{s:Shared} (I:Inv X pins σ H s):HOk X.prog X.w H (W.hideAll s.heap (frs X.stack)):=fun a o e=>by
 refine (I.hok a o e).stay (fun b v hb q=>W.hideAll_get _ q fun hm=>?_) (fun _ q=>q) fun _ _ q=>q
 have hz:=I.stkFree b hm
 rcases hb with z | z
 ·rw[z,e] at hz;cases hz
 ·rw[z] at hz;cases hz
structure Outs (C:Addr) (E:XK) (X:Cx):Prop where
 ex:X.ex=[]
 st:X.stack=X.env::X.outer
 fr:X.env.frame=some X.env.locals
 xe:∀e s',wpAny (model X.prog X.w) X.A (leaving X.env e) (fun _ s''=>CXF X.prog X.w C X.outer X.H_0 X.s_0 E e s'') (fun e' s''=>CXF X.prog X.w C X.outer X.H_0 X.s_0 E e' s'') s'->X.xe e s'
theorem aP:Outs C E (cxOf (CXF P w C) P w K mg base N qual sc f cd A outer s0 H0 E):=⟨rfl,rfl,rfl,fun _ _ h=>h⟩
theorem Outs.fly {X:Cx} (O:Outs C E X) {pins:List (Addr×Obj)}{σ:St}{H H':Hp}{s s':Shared}{ea:Addr}{a0:Value}{B:Heap} (I:Inv X pins σ H s) (F:Fly X.prog X.w C X.stack H s ea a0 H' B s') (q:E (.ref C) none H'):X.xe (.ref ea) s':=by
 have hfr:X.A.frames=some (X.env::X.outer):=by rw[← O.st];exact I.ok.frames
 refine O.xe _ _ (kL hfr O.fr (by rw[← O.st];exact F.air) fun h' x u=>?_)
 exact⟨ea,a0,H',B,rfl,xw I O.ex O.st F x u,q⟩
theorem de {X:Cx} (O:Outs C E X):Passes (CXF X.prog X.w C) X E:=by
 rintro pins σ H s e s' I ⟨ea,a0,H',B,rfl,F,q⟩
 exact O.fly I F q
def Throws (C:Addr) (X:Cx) (E:XK):Prop:=∀(pins:List (Addr×Obj)) (σ:St) (H:Hp) (s:Shared) (e:Addr) (h':Heap) (args:List Value),Inv X pins σ H s->Heap.MadeExcOf s.heap h' e (.ref C) args->E (.ref C) none H->X.xe (.ref e) {s with heap:=h'}
theorem bK {X:Cx} (O:Outs C E X):Throws C X E:=by
 intro pins σ H s e h' args I hx q
 have hfr:X.A.frames=some (X.env::X.outer):=by rw[← O.st];exact I.ok.frames
 have hn:∀b:Addr,b∉X.ex:=fun b z=>by rw[O.ex] at z;exact absurd z (by simp)
 have hin:∀env∈(X.env::X.outer),∀b,env.frame=some b->b∈frs (X.env::X.outer):=fun env he b hb=>List.mem_filterMap.mpr ⟨env,he,hb⟩
 have nst:∀b o,X.s_0.heap.get? b=some o->b∉frs X.outer->b∉frs (X.env::X.outer):=fun b o e hb hm=>by
  rcases List.mem_cons.mp (I.stkSub b (by rw[O.st];exact hm)) with z | z
  ·exact absurd (Nat.lt_of_lt_of_le (Heap.lt_size e) I.ok.above) (by rw[z];exact Nat.lt_irrefl _)
  ·exact hb z
 have hl:s.heap.FunFrames X.base (X.env::X.outer):=by rw[← O.st];exact I.stack
 refine O.xe _ _ (wpAny_leaves_madeW (h:=s.heap) (base:=W.hideAll s.heap (frs (X.env::X.outer))) hfr O.fr (fun b o q=>W.of_hideAll _ q) (W.funFrames_hide hl hin) hx fun h2 t x1 x2 x3 x4=>?_)
 refine⟨e,.ref t,H,_,rfl,⟨Air.of_fly x1,I.os,I.bare,fun b o e n hb=>?_,fun b o e n hb=>?_,fun b o e n=>I.base.free b o e n (hn b),fun b o e hb=>?_,I.base.tups,I.base.frzs,I.base.tbls,?_⟩,q⟩
 ·exact W.hideAll_get _ (I.base.keep b o e n hb (hn b)) (nst b o e hb)
 ·obtain⟨sl,e1⟩:=I.base.slot b o e n hb (hn b)
  have hf:=I.funs.mem (b:=b) hb
  obtain⟨_,o2,ho2,hnf⟩:=hf
  rw[e1] at ho2
  cases ho2
  obtain⟨sl2,e3⟩:=x4 b _ (hx.keeps b _ e1) hnf
  exact⟨sl2,e3⟩
 ·obtain⟨o',e1⟩:=I.base.there b o e (hn b)
  exact⟨o',W.hideAll_get _ e1 (nst b o e hb)⟩
 ·rw[← O.st]
  exact vJ I
end
abbrev lR:List Value:=[.type "Exception",.type "BaseException",.type "object"]
structure ExC (K:W.Frag) (mg:Str->Option Value) (x:Str) (C:Addr):Prop where
 ns:mg x=some (.ref C)
 exc:W.excIn K C lR "Exception.__new__" = true
theorem rn {K:W.Frag}{h:Heap}{C:Addr}{bmB:List Value}{newId:String} (X:K.In h) (q:W.excIn K C bmB newId=true) :
  ∃bm N nm qn bs hdct sn sub ab col dd k0 k1 k2 k3 k5 mN,h.get? C=some (excClassObj nm qn C N bs bm hdct sn sub ab col dd k0 k1 k2 k3 k5 newId)/\h.Ns N mN/\mN "__init__" = none/\OwnTail h bmB bm:=by
 unfold W.excIn at q
 split at q
 ·rename_i dd cd sl ho
  split at q
  ·rename_i C1 bm k0 k1 k2 k3 n k5 hm hs
   simp only[Bool.and_eq_true,beq_iff_eq,Bool.not_eq_true'] at q
   obtain⟨⟨⟨⟨⟨rfl,rfl⟩,hdel⟩,ht⟩,hok⟩,hni⟩:=q
   obtain⟨nm,bs,mro,ns,qn,hd,sn,sub,ab,col,del⟩:=cd
   dsimp only at hm hdel hok hni
   subst hm hdel
   have hsl:sl=#[k0,k1,k2,k3,some (.builtin n),k5]:=by
    obtain⟨l⟩:=sl
    simp only at hs
    rw[hs]
   subst hsl
   exact⟨bm,ns,nm,qn,bs,hd,sn,sub,ab,col,dd,k0,k1,k2,k3,k5,_,X _ _ ho,.of_isNs (W.isNs_of_in X hok),W.nsMap_none_of_in X hok hni,W.tail_of_in X ht⟩
  ·cases q
 ·cases q
section
variable {X:Cx}{C:Addr}{E:XK}{x:Str}{np cpos pos:Pos}{e:Expr}{es:List Expr}{t:TA}
def xT (C:Addr) (E:XK) (t:TA):TS:=fun _ σ H=>t σ H fun vs H1=>vs.length<=sizeLine/\E (.ref C) none H1
theorem bd (hc:X.calm=true) (T:Throws C X E) (hg:Gl X x) (Q:ExC X.K X.mg x C) (ha:PA X (e::es) t) (he:starEach (e::es) X.env=(false,eval e X.env)::starEach es X.env:=by rfl)
  (hpl:(backTo cpos (starEach (e::es) X.env)).any (·.1)=false:=by rfl) (hdb:(x==("__debug__":Str))=false:=by decide):PS X (.Raise (some (.Call (.Name x np) (e::es) [] cpos)) none pos) (xT C E t):=by
 intro pins s σ H D I h
 obtain⟨tl,N,nm,q,bs,hdct,sn,sub,ab,col,dd,k0,k1,k2,k3,k5,mN,hC,hN,hni,TL⟩:=rn I.mod.kin Q.exc
 refine wpAny_Raise_call_subT (nm:=nm) (q:=q) (C:=C) (N:=N) (bs:=bs) (bm:=tl) (hdct:=hdct) (sn:=sn) (sub:=sub) (ab:=ab) (col:=col) (dd:=dd) (k0:=k0) (k1:=k1) (k2:=k2) (k3:=k3) (k5:=k5)
  F.excBase_Exception (mN:=mN) (TL.hasType F.excBase_Exception.hasBase) (I.ok.hd hc) hpl hni (cU I hg Q.ns ⟨rfl,?_⟩ hdb)
 have hx:=ha cpos pins s σ H _ I h
 rw[he] at hx ⊢
 exact Calls.evalArgs_plain (wpAny_mono hx (fun us s2 ⟨vs,H2,I2,r,hlen,q⟩=>⟨rfl,by rw[← r.length];exact hlen,I2.bk _ _ hC,hN.keeps I2.bk,TL.keeps I2.bk,fun h' ex hm=>T pins σ H2 s2 ex h' us I2 hm q⟩) fun _ _ y=>y)
end
abbrev Cx.tried (X:Cx) (C:Addr) (E:XK) (pins:List (Addr×Obj)):Cx :=
 {X with pn:=X.pn++pins,xe:=fun e s'=>∃(ps:List (Addr×Obj)) (σ:St) (H:Hp) (s:Shared),Inv {X with pn:=X.pn++pins,xe:=fun _ _=>False} ps σ H s/\CXF X.prog X.w C X.stack H s E e s'}
abbrev Cx.hush (X:Cx) (e:Value):Cx:={X with A:=X.A.mark (some e),calm:=false,xe:=fun _ _=>False}
section
variable {X:Cx}{C:Addr}{E:XK}{pins ps:List (Addr×Obj)}{σ:St}{H:Hp}{s:Shared}
theorem Inv.tried (I:Inv X pins σ H s):Inv (X.tried C E pins) [] σ H s:=⟨⟨I.ok.mod,I.ok.kind,I.ok.glob,I.ok.blt,I.ok.above,I.ok.inj,I.ok.has,I.ok.cab,I.ok.hd,I.ok.frames,I.ok.stk,I.ok.exf,I.ok.bs,I.ok.bsz,I.ok.noex,I.ok.exfs,I.ok.funs,I.ok.frf⟩,I.os,I.bare,I.base,I.loc,I.cell,I.free,I.freeC,fun p hp=>I.pin p (by simpa using hp),I.hok,I.len⟩
theorem Inv.untried {E':Value->Shared->Prop} (ok:X.Ok) (I:Inv {X with pn:=X.pn++pins,xe:=E'} ps σ H s):Inv X pins σ H s :=
 ⟨ok,I.os,I.bare,I.base,I.loc,I.cell,I.free,I.freeC,fun p hp=>I.pin p (List.mem_append_left _ hp),I.hok,I.len⟩
theorem Inv.hush (I:Inv X pins σ H s) (e:Value):Inv (X.hush e) pins σ H s:=⟨⟨I.ok.mod,I.ok.kind,I.ok.glob,I.ok.blt,I.ok.above,I.ok.inj,I.ok.has,I.ok.cab,(fun z=>nomatch z),I.ok.frames,I.ok.stk,I.ok.exf,I.ok.bs,I.ok.bsz,I.ok.noex,I.ok.exfs,I.ok.funs,I.ok.frf⟩,I.os,I.bare,I.base,I.loc,I.cell,I.free,I.freeC,I.pin,I.hok,I.len⟩
theorem Inv.unhush {e:Value} (ok:X.Ok) (I:Inv (X.hush e) pins σ H s):Inv X pins σ H s:=⟨ok,I.os,I.bare,I.base,I.loc,I.cell,I.free,I.freeC,I.pin,I.hok,I.len⟩
def zO (tb:XK->TS) (th:TS):TS:=fun D σ H=>tb (fun _ _ H'=>th D (σ.map fun _=>none) H') D σ H
theorem yf {x:Str}{np hpos pos:Pos}{body suite:List Stmt}{b₀:Stmt}{tb:XK->TS}{th:TS} (hst:X.stack=X.env::X.outer) (hfr:X.env.frame=some X.env.locals) (hg:Gl X x) (Q:ExC X.K X.mg x C)
  (hb:∀E pins,PSs (X.tried C E pins) body (tb E)) (hh:∀e,PSs (X.hush e) (b₀::suite) th) (hdb:(x==("__debug__":Str))=false:=by decide) :
  PS X (.Try body [.ExceptHandler (some (.Name x np)) none (b₀::suite) hpos] [] [] pos) (zO tb th):=by
 intro pins s σ H D I h
 refine wpAny_Try_except ?_
 refine wpAny_mono (hb _ pins [] s σ H D I.tried h) (fun f s1 hf=>?_) fun e s1 hx=>?_
 ·cases f with
  | next =>
   obtain⟨σ',H',I',q⟩:=hf
   exact wpAny_execs_nil ⟨σ',H',Inv.untried I.ok I',q⟩
  | brk =>
   obtain⟨σ',H',I',q⟩:=hf
   exact⟨σ',H',Inv.untried I.ok I',q⟩
  | cont =>
   obtain⟨σ',H',I',q⟩:=hf
   exact⟨σ',H',Inv.untried I.ok I',q⟩
  | ret u =>
   obtain⟨v,σ',H',I',r,q⟩:=hf
   exact⟨v,σ',H',Inv.untried I.ok I',r,q⟩
 ·obtain⟨ps,σ1,H1,s0,I1,ea,a0,H',B,rfl,F,q⟩:=hx
  have I2:Inv X pins (σ.map fun _=>none) H1 s0:=(Inv.untried I.ok I1).weak (by rw[List.length_map,I.len];exact I1.len.symm) fun i v e=>by
   rw[List.getElem?_map] at e
   cases hz:σ[i]? with
   | none=>rw[hz] at e;cases e
   | some z=>rw[hz] at e;cases e
  have hA:X.A.frames=some (X.env::X.outer):=by rw[← hst];exact I.ok.frames
  refine iJ hA hfr (by rw[← hst];exact F.air) fun h2 x2 u2=>?_
  refine iK x2 fun h3 x3 u3=>?_
  have x3':Heap.FlyingW B X.stack ea (.ref C) a0 h3:=by rw[hst];exact x3
  have F3:=F.later (Air.of_fly x3') (u2.trans u3)
  have I3:Inv X pins (σ.map fun _=>none) H' {s1 with heap:=h3}:=I2.call' F3.os F3.un F3.held F3.bare fun b z=>absurd z (by simp)
  obtain⟨tl,N,nm,qn,bs,hdct,sn,sub,ab,col,dd,k0,k1,k2,k3,k5,mN,hC,hN,hni,TL⟩:=rn I3.mod.kin Q.exc
  obtain⟨ob,hob,hobc⟩:=x3.there
  refine wpAny_handleBy_cons (codeAny_handlers_test (cU (I3.hush (.ref ea)) hg Q.ns ?_ hdb)) (by intro q;cases q)
  refine wpAny_excMatches_sub_self (I3.bk _ _ hC) hob hobc (TL.hasType PySem.F.excBase_Exception.hasBase) (codeAny_handlers_suite ?_)
  refine iK (Air.of_fly x3') fun h4 x4 u4=>?_
  have F4:=F3.later (Air.of_fly x4) u4
  have I4:Inv X pins (σ.map fun _=>none) H' {s1 with heap:=h4}:=I2.call' F4.os F4.un F4.held F4.bare fun b z=>absurd z (by simp)
  refine wpAny_noRaise (wpAny_mono (hh (.ref ea) pins _ _ H' D (I4.hush (.ref ea)) q) (fun f s5 hf=>?_) fun _ _ z=>z)
  cases f with
  | next =>
   obtain⟨σ',H5,I',q⟩:=hf
   exact⟨σ',H5,Inv.unhush I.ok I',q⟩
  | brk =>
   obtain⟨σ',H5,I',q⟩:=hf
   exact⟨σ',H5,Inv.unhush I.ok I',q⟩
  | cont =>
   obtain⟨σ',H5,I',q⟩:=hf
   exact⟨σ',H5,Inv.unhush I.ok I',q⟩
  | ret u =>
   obtain⟨v,σ',H5,I',r,q⟩:=hf
   exact⟨v,σ',H5,Inv.unhush I.ok I',r,q⟩
theorem pD {pins:List (Addr×Obj)}:Passes (CXF X.prog X.w C) (X.tried C E pins) E:=by
 intro ps σ H s e s' I h
 exact⟨ps,σ,H,s,⟨⟨I.ok.mod,I.ok.kind,I.ok.glob,I.ok.blt,I.ok.above,I.ok.inj,I.ok.has,I.ok.cab,I.ok.hd,I.ok.frames,I.ok.stk,I.ok.exf,I.ok.bs,I.ok.bsz,I.ok.noex,I.ok.exfs,I.ok.funs,I.ok.frf⟩,I.os,I.bare,I.base,I.loc,I.cell,I.free,I.freeC,I.pin,I.hok,I.len⟩,h⟩
end
section
variable {P:Program}{w:World}{K:W.Frag}{mg:Str->Option Value}{base:Heap}{C:Addr}
theorem Fun.okX {x qual:Str}{st:Stmt}{f:Addr}{fd:FuncData}{N ps:List Str}{k:Nat}{sp:Sp} (F:Fun K x qual st f fd) (S:FnScope N ps (ad st)) (len:∀vs H Q E,sp vs H Q E->vs.length=ps.length)
  (hbody:∀(cdv:Value) (A:Around) (outer:List Env) (s:Shared) (H:Hp) (vs:List V) (Q:VK) (E:XK),Room k (A.deeper (envOfC qual (ad st) s.heap.objs.size f cdv))->sp vs H Q E ->
   ∃t,PSs (cxOf (CXF P w C) P w K mg base N qual (ad st) f cdv A outer s H E) (au st) t/\t {nx:=fun _ H'=>Q .non H',rt:=Q} (start N vs) H):FnOk P w K mg base (CXF P w C) (k+1) f fd ps sp:=by
 obtain⟨oc,od,kV,doc,pm,an,cdv,ct,osl,rfl,lk,hcd⟩:=F.ex
 exact vI lk hcd S len fun A outer s H vs Q E hr hsp=>hbody cdv A outer s H vs Q E hr hsp
theorem FnOk.calm {CX:CXT}{k:Nat}{f:Addr}{fd:FuncData}{ps:List Str}{sp:Sp} (F:FnOk P w K mg base CX0 k f fd ps sp):FnOk P w K mg base CX k f fd ps sp :=
 ⟨F.len,fun A outer s H args us vs Q E hr he hb hv hs=>codeAny_mono (F.run A outer s H args us vs Q E hr he hb hv hs) fun r s' h=>by
  cases r with
  | error e=>exact False.elim h
  | ok fl=>cases fl <;> exact h⟩
end
theorem bR {P:Program}{w:World}{K:W.Frag}{mg:Str->Option Value}{base:Heap}{N:List Str}{qual:Str}{sc:Scope}{f:Addr}{cd:Value}{A:Around}{outer:List Env}{s0:Shared}{H0:Hp}{E:XK}{CX:CXT} :
  PassesOwn (model P w) (cxOf CX P w K mg base N qual sc f cd A outer s0 H0 E).A (cxOf CX P w K mg base N qual sc f cd A outer s0 H0 E).env (cxOf CX P w K mg base N qual sc f cd A outer s0 H0 E).xe:=PassesOwn.leaving
abbrev Cx.blkX (X:Cx) (C:Addr) (E:XK) (s:Shared) (H:Hp) (scope:Scope) (cenv:Env) (fp:List Addr):Cx :=
 {X.blk s H scope cenv fp with xe:=fun e s'=>∃(ps:List (Addr×Obj)) (σ:St) (H1:Hp) (s1:Shared),Inv (X.blk s H scope cenv fp) ps σ H1 s1/\CXF X.prog X.w C X.stack H1 s1 E e s'}
section
variable {X:Cx}{C:Addr}{E:XK}
theorem ss {s:Shared}{H:Hp}{scope:Scope}{cenv:Env}{fp:List Addr}:Passes (CXF X.prog X.w C) (X.blkX C E s H scope cenv fp) E:=by
 intro ps σ H1 s1 e s' I h
 exact⟨ps,σ,H1,s1,Inv.wish (X:=X.blkX C E s H scope cenv fp) I fun _ _=>False,h⟩
theorem xz (O:Outs C E X) {pins ps:List (Addr×Obj)}{σ σ1:St}{H3 H1 H':Hp}{s3 s1 s':Shared}{scope:Scope}{ce:Env}{fp:List Addr}{ea:Addr}{a0:Value}{B:Heap}
  (I3:Inv X pins σ H3 s3) (f3:∀b∈fp,FpOk X pins H3 b/\b<s3.heap.objs.size) (hce:ce.frame=X.env.frame) (I1:Inv (X.blk s3 H3 scope ce fp) ps σ1 H1 s1) (F:Fly X.prog X.w C X.stack H1 s1 ea a0 H' B s') (q:E (.ref C) none H')
  {use:Option (Value->Sem Unit)}{Qf:Value->Shared->Prop}{D:Value} :
  notedBy (model X.prog X.w) X.A ce (fun e s'=>compPost (model X.prog X.w) X.A X.xe use Qf D ce.locals (.error e) s') (.ref ea) s':=by
 have hA:X.A.frames=some (X.env::X.outer):=by rw[← O.st];exact I3.ok.frames
 unfold notedBy
 rw[kW hce]
 refine iJ hA O.fr (by rw[← O.st];exact F.air) fun h2 x2 u2=>?_
 rw[← O.st] at x2
 have F2:=F.later x2 u2
 have I2:Inv (X.blk s3 H3 scope ce fp) ps σ1 H' {s' with heap:=h2}:=I1.call' F2.os F2.un F2.held F2.bare fun b z=>absurd z (by simp)
 obtain⟨m,hn,_⟩:=I2.loc
 have hn:h2.Ns ce.locals m:=hn
 have out:∃m,h2.Ns ce.locals m/\∀h',Heap.SameBut ce.locals h2 h'->∀cenv:Env,cenv.locals=ce.locals->wpAny (model X.prog X.w) X.A (PySem.passOn "comprehension.variables-let-go" (.ref ea) cenv:Sem Value) (fun _ _=>False) X.xe {s' with heap:=h'}:=by
  refine⟨m,hn,fun h4 sb cenv _=>?_⟩
  have neL:∀b o,h2.get? b=some o->(∀es ep,o.data≠.dict es ep)->b≠ce.locals:=fun b o e hd z=>by
   obtain⟨o',es,ep,ho',hd',_⟩:=hn
   rw[z,ho'] at e
   cases e
   exact hd es ep hd'
  have neF:∀b,b∈frs X.stack->b≠ce.locals:=fun b hb z=>by
   obtain⟨_,o,ho,_⟩:=I1.ok.funs.mem (b:=b) hb
   have:=Nat.lt_of_lt_of_le (Heap.lt_size ho) I1.ok.above
   rw[z] at this
   exact Nat.lt_irrefl _ this
  have stay:(W.hideAll B [ce.locals]).StaysIn h4:=fun b o e=>by
   have hb:b≠ce.locals:=fun z=>by
    rw[z,W.hideAll_none [ce.locals] (by simp)] at e
    cases e
   rw[sb.2 b hb]
   exact x2.1 b o (W.of_hideAll _ e)
  have less:∀b,B.get? b=none->(W.hideAll B [ce.locals]).get? b=none:=fun b e=>by
   cases hz:(W.hideAll B [ce.locals]).get? b with
   | none=>rfl
   | some o =>
    have:=W.of_hideAll _ hz
    rw[e] at this
    cases this
  have frames:∀l:List Env,(∀b∈frs l,b∈frs X.stack)->h2.FunFrames B l->h4.FunFrames (W.hideAll B [ce.locals]) l:=by
   intro l
   induction l with
   | nil=>intro _ _;trivial
   | cons env r ih =>
    intro hs hl
    obtain⟨hk,⟨L,o,hf,hnB,ho,hd⟩,hr⟩:=hl
    have hL:L∈frs X.stack:=hs L (by unfold frs;rw[List.filterMap_cons,hf];exact List.mem_cons_self)
    exact⟨hk,⟨L,o,hf,less L hnB,by rw[sb.2 L (neF L hL)];exact ho,hd⟩,ih (fun b hb=>hs b (by unfold frs;rw[List.filterMap_cons,hf];exact List.mem_cons_of_mem _ hb)) hr⟩
  have x4:Air (W.hideAll B [ce.locals]) X.stack ea (.ref C) a0 h4:=by
   obtain⟨k1,k2,k3,fl,⟨oe,vs,T,oT,ts,he,hcls,hd,h1,hnT,hTe,hT,hdT,h3⟩⟩:=x2
   exact⟨stay,less _ k2,frames _ (fun _ z=>z) k3,fl,oe,vs,T,oT,ts,by rw[sb.2 ea (neL ea oe he fun es ep z=>by rw[hd] at z;cases z)];exact he,hcls,hd,h1,less _ hnT,hTe,by rw[sb.2 T (neL T oT hT fun es ep z=>by rw[hdT] at z;cases z)];exact hT,hdT,h3⟩
  refine qe (s:={s' with heap:=h4}) x4 fun h5 x5 u5=>?_
  refine O.xe _ _ (kL hA O.fr (by rw[← O.st];exact x5) fun h6 x6 u6=>?_)
  have nex:∀b:Addr,b∉X.ex:=fun b z=>by rw[O.ex] at z;exact absurd z (by simp)
  have old:∀b o,X.s_0.heap.get? b=some o->b∉fp:=fun b o e hb=>by
   rcases (f3 b hb).1.2.2.2.1 with z | z
   ·exact nex b z
   ·exact absurd (Nat.lt_of_lt_of_le (Heap.lt_size e) z) (Nat.lt_irrefl _)
  have nst:∀b o,X.s_0.heap.get? b=some o->b∉frs X.outer->b∉frs X.stack:=fun b o e hb hm=>by
   rcases List.mem_cons.mp (I3.stkSub b hm) with z | z
   ·exact absurd (Nat.lt_of_lt_of_le (Heap.lt_size e) I3.ok.above) (by rw[z];exact Nat.lt_irrefl _)
   ·exact hb z
  have ist:∀b,b∈frs X.outer->b∈frs X.stack:=fun b hb=>by
   rw[O.st]
   unfold frs at hb ⊢
   rw[List.filterMap_cons]
   split
   ·exact hb
   ·exact List.mem_cons_of_mem _ hb
  have nce:∀b o,X.s_0.heap.get? b=some o->b≠ce.locals:=fun b o e z=>by
   obtain⟨o',e1⟩:=I3.base.there b o e (nex b)
   have:=Nat.lt_of_lt_of_le (Heap.lt_size e1) I1.ok.above
   rw[z] at this
   exact Nat.lt_irrefl _ this
  have hide:∀b o,b≠ce.locals->B.get? b=some o->(W.hideAll B [ce.locals]).get? b=some o:=fun b o hb e=>W.hideAll_get _ e (by simpa using hb)
  refine⟨ea,a0,H',W.hideAll B [ce.locals],rfl,⟨x6,?_,F.bare,fun b o e n hb=>?_,fun b o e n hb=>?_,fun b o e n=>?_,fun b o e hb=>?_,fun b xs e=>?_,fun b o v e=>?_,fun b ps e=>?_,?_⟩,q⟩
  ·exact F.os.trans (I1.os.trans I3.os)
  ·have e3:=I3.base.keep b o e n hb (nex b)
   have n3:=I3.base.free b o e n (nex b)
   exact hide b o (nce b o e) (F.keep b o (I1.base.keep b o e3 n3 (nst b o e hb) (old b o e)) (I1.base.free b o e3 n3 (old b o e)) (nst b o e hb))
  ·obtain⟨sl3,e3⟩:=I3.base.slot b o e n hb (nex b)
   have n3:=I3.base.free b o e n (nex b)
   obtain⟨sl1,e1⟩:=I1.base.slot b _ e3 n3 (ist b hb) (old b o e)
   obtain⟨sl2,e2⟩:=F2.slot b _ e1 (I1.base.free b _ e3 n3 (old b o e)) (ist b hb)
   have e4:h4.get? b=some {o with slots:=sl2}:=by rw[sb.2 b (nce b o e)];exact e2
   have nf:∀vs,({o with slots:=sl2}:Obj).data≠.fields vs:=by
    obtain⟨_,o2,ho2,hnf⟩:=F2.air.2.2.1.mem (b:=b) (ist b hb)
    rw[e2] at ho2
    cases ho2
    exact hnf
   obtain⟨sl5,e5⟩:=u5 b _ e4 nf
   obtain⟨sl6,e6⟩:=u6 b _ e5 nf
   exact⟨sl6,e6⟩
  ·obtain⟨o3,e3⟩:=I3.base.there b o e (nex b)
   obtain⟨o1,e1⟩:=I1.base.there b o3 e3 (old b o e)
   exact F.free b o1 e1 (I1.base.free b o3 e3 (I3.base.free b o e n (nex b)) (old b o e))
  ·obtain⟨o3,e3⟩:=I3.base.there b o e (nex b)
   obtain⟨o1,e1⟩:=I1.base.there b o3 e3 (old b o e)
   obtain⟨o',e'⟩:=F.there b o1 e1 (nst b o e hb)
   exact⟨o',hide b o' (nce b o e) e'⟩
  ·exact F.tups b xs (I1.base.tups b xs (I3.base.tups b xs e))
  ·exact F.frzs b o v (I1.base.frzs b o v (I3.base.frzs b o v e))
  ·obtain⟨m1,e1⟩:=I3.base.tbls b ps e
   obtain⟨m2,e2⟩:=I1.base.tbls b _ e1
   obtain⟨m3,e3⟩:=F.tbls b _ e2
   exact⟨m1++m2++m3,by rw[e3];simp[Array.append_assoc]⟩
  ·have hL:H' ce.locals=none:=I2.free
   intro a o e
   refine (F.hok a o e).stay (fun b v hb z=>hide b v (fun y=>?_) z) (fun _ z=>z) fun _ _ z=>z
   rcases hb with y' | y'
   ·rw[← y',y,hL] at e;cases e
   ·rw[y,hL] at y';cases y'
 cases use <;> exact out
end
section
variable {X:Cx}
theorem vv {Cc:Addr}{Ex:XK} (O:Outs Cc Ex X) {pins:List (Addr×Obj)}{s:Shared}{σ:St}{H:Hp}{Q:VK}{elt tg iter:Expr}{ifs:List Expr}{scope:Scope}{own:List (Str×Nat)}{pos pos':Pos}{wi:TI}{g:TG}{tt:TT}{te:TE}{use:Option (Value->Sem Unit)}{Qf:Value->Shared->Prop}
  (hc:X.calm=true) (hN:X.N.Nodup) (I:Inv X pins σ H s) (hi:PI X tg iter wi) (ok:BlkOk X.N X.env.scope scope own)
  (hg:∀(s:Shared) (H:Hp) (C:Addr) (cl:List (Str×Addr)) (fp:List Addr),PG (X.blk s H scope (compEnvC scope cl C X.env) fp) tg g) (ht:∀(s:Shared) (H:Hp) (C:Addr) (cl:List (Str×Addr)) (fp:List Addr),PTs (X.blk s H scope (compEnvC scope cl C X.env) fp) ifs tt)
  (he:∀(s:Shared) (H:Hp) (C:Addr) (cl:List (Str×Addr)) (fp:List Addr),PE (X.blkX Cc Ex s H scope (compEnvC scope cl C X.env) fp) elt te) (hs:∀x,foldedSetIterable iter X.env x=pure x)
  (h:tLc wi g tt te (own.map (·.2)) σ H Q)
  (hRR:∀D C s' m H',Inv X pins σ H' s'->Q (.ref D) H'->s'.heap.Ns C m->FpOk X pins H' C->compPost (model X.prog X.w) X.A X.xe use Qf (.ref D) C (.ok .next) s') :
  wpAny (model X.prog X.w) X.A (comprehension (.ListComp elt [⟨tg,iter,ifs,0⟩] scope pos) scope X.env pos' (newList []) false (eval iter X.env) use) Qf X.xe s:=by
 have hfree:∀y∈scope.names,y.2=.free->∃c,X.env.cells.lookup y.1=some c:=fun y hy e=>by
  rcases ok.free y hy e with k | k
  ·exact I.ok.has _ (.inl k)
  ·exact I.ok.has _ (.inr k)
 refine wpAny_comprehension_free (use:=use) rfl hs (kC hfree) ok.kind (fun y hy e=>by rw[ok.uniq y hy,e])
  (thn (hi pins s σ H _ I h) fun xv s1 hx=>thn hx fun itv s2 h2=>?_)
 obtain⟨it,fp,tn,J,H2,e,I2,T,st2,f2,q⟩:=h2
 subst e
 refine wpAny_newObj_type (iV ?_) (by show 0<=sizeLine;decide)
 generalize hD:s2.heap.objs.size=D
 have hDn:H2 D=none:=I2.hok.fresh (Nat.le_of_eq hD)
 obtain⟨W,⟨m0,w0⟩,turn⟩:=q D hDn
 generalize hs3:({s2 with heap:=s2.heap.push {cls:=.type "list",data:=.seq ([]:List Value).toArray}}:Shared)=s3
 have I3:Inv X pins σ (upd H2 D (.lst [])) s3:=by
  rw[← hs3]
  refine I2.laid (t':=s2.toks) (fun b o e=>Heap.get?_push_of_some _ e) (Nat.le_of_eq hD) ⟨Nat.zero_le _,[],0,.nil,?_⟩
  rw[← hD]
  exact Heap.get?_push_size _ rfl
 have h3:s3.heap=s2.heap.push {cls:=.type "list",data:=.seq ([]:List Value).toArray}:=by rw[← hs3]
 have sz:∀b∈fp,b<s2.heap.objs.size:=fun b hb=>by
  obtain⟨o,e,_⟩:=T.obj _ _ st2 b hb
  exact Heap.lt_size e
 have f3:∀b∈fp,FpOk X pins (upd H2 D (.lst [])) b/\b<s3.heap.objs.size:=fun b hb=>by
  have hlt:=sz b hb
  refine⟨⟨?_,(f2 b hb).2⟩,by rw[h3,Heap.size_push];exact Nat.lt_succ_of_lt hlt⟩
  rw[ai (by rw[← hD];exact Nat.ne_of_lt hlt)]
  exact (f2 b hb).1
 have st3:tn 0 s3.heap:=T.keep _ _ _ st2 fun b _ o e=>by rw[h3];exact Heap.get?_push_of_some _ e
 have I4:=ja I3 ok hN f3
 have pg:=hg s3 (upd H2 D (.lst [])) s3.heap.objs.size (cellsFrom (s3.heap.objs.size+1) scope.names (aW X.env.cells scope.names [])) fp
 have pt:=ht s3 (upd H2 D (.lst [])) s3.heap.objs.size (cellsFrom (s3.heap.objs.size+1) scope.names (aW X.env.cells scope.names [])) fp
 have pe:=he s3 (upd H2 D (.lst [])) s3.heap.objs.size (cellsFrom (s3.heap.objs.size+1) scope.names (aW X.env.cells scope.names [])) fp
 show codeAny _ _ (.compStart (.ListComp elt [⟨tg,iter,ifs,0⟩] scope pos) 0 (.ref it) (.ref D) (compEnvC scope (cellsFrom (s3.heap.objs.size+1) scope.names (aW X.env.cells scope.names [])) s3.heap.objs.size X.env)) (compPost (model X.prog X.w) X.A X.xe use Qf (.ref D) s3.heap.objs.size) {s3 with heap:=pushCells (s3.heap.push {cls:=.type "dict",data:=.dict #[]}) scope.names}
 have nfp:∀b∈fp,(upd H2 D (.lst [])) b=none:=fun b hb=>(f3 b hb).1.1
 generalize hce:compEnvC scope (cellsFrom (s3.heap.objs.size+1) scope.names (aW X.env.cells scope.names [])) s3.heap.objs.size X.env=ce at I4 pg pt pe ⊢
 have cL:ce.locals=s3.heap.objs.size:=by subst hce;rfl
 generalize hH3:upd H2 D (.lst [])=H3 at I3 I4 pg pt pe w0 nfp f3
 generalize hs4:({s3 with heap:=pushCells (s3.heap.push {cls:=.type "dict",data:=.dict #[]}) scope.names}:Shared)=s4 at I4 ⊢
 have st4:tn 0 s4.heap:=T.keep _ _ _ st3 fun b _ o e=>by rw[← hs4];exact pushCells_keeps _ _ _ _ (Heap.get?_push_of_some _ e)
 have stat:∀{σ':St}{H':Hp}{s':Shared},Inv (X.blk s3 H3 scope ce fp) [] σ' H' s'->(∀b∈fp,H' b=none)->∀b∈fp,FpOk (X.blk s3 H3 scope ce fp) [] H' b:=fun {σ' H' s'} I' hn b hb =>
  ⟨hn b hb,(I'.ok.exf b hb).1,I'.ok.exfs b hb,.inl hb,fun x c e=>(I'.ok.exf b hb).2 x c e,fun p hp=>absurd (show p∈([]:List (Addr×Obj))++[] from hp) (by simp)⟩
 have loop:codeAny (model X.prog X.w) X.A (.compLoop (.ListComp elt [⟨tg,iter,ifs,0⟩] scope pos) 0 (.ref it) (.ref D) ce) (compPost (model X.prog X.w) X.A X.xe use Qf (.ref D) s3.heap.objs.size) s4:=by
  refine g8 (fun n s'=>∃i H',Inv (X.blk s3 H3 scope ce fp) [] (wipe σ (own.map (·.2))) H' s'/\tn i s'.heap/\(∀b∈fp,H' b=none)/\W i n H') ?_ m0 ⟨0,H3,I4,st4,nfp,w0⟩
  rintro n s5 ⟨i,H5,I5,st5,n5,w5⟩
  rcases turn i n H5 w5 with ⟨stop,qq⟩ | ⟨go,Nx,hNx,step⟩
  ·have td:=T.done (X.blk s3 H3 scope ce fp) rfl rfl rfl hc i [] s5 _ H5 (fun _ _=>False) I5 (stat I5 n5) st5 stop
   refine ju td fun r s6 ⟨hr,I6⟩=>?_
   subst hr
   have I7:Inv X pins σ H5 s6:=I3.call' (ch:=fp) I6.os I6.base I6.hok I6.bare fun b hb=>⟨(f3 b hb).1.2.2.2.1,(f3 b hb).1.2.1,(f3 b hb).1.2.2.2.2.1,(f3 b hb).1.2.2.2.2.2⟩
   have nC:H5 s3.heap.objs.size=none:=by
    have z:H5 ce.locals=none:=I6.free
    rw[cL] at z
    exact z
   obtain⟨m,hn,_⟩:=I6.loc
   have hn:s6.heap.Ns ce.locals m:=hn
   rw[cL] at hn
   exact hRR D s3.heap.objs.size s6 m H5 I7 qq hn (I3.fpOk (Nat.le_refl _) nC)
  ·have ti:=T.item (X.blk s3 H3 scope ce fp) rfl rfl rfl hc i [] s5 _ H5 (fun _ _=>False) I5 (stat I5 n5) st5 go
   refine ju ti fun r s6 ⟨u,hr,h6⟩=>?_
   subst hr
   refine ju h6 fun _ s7 ⟨x,H7,I7,r7,y7,st7,n7⟩=>?_
   have I7':=I7.pinned (stat I7 n7) (T.obj _ _ st7)
   refine ju (pg _ s7 _ H7 x u _ I7' r7 (step x H7 y7)) fun _ s8 ⟨σ8,H8,I8,hw8,q8⟩=>?_
   refine ju (pt _ s8 σ8 H8 _ I8 q8) fun b s9 ⟨H9,I9,q9⟩=>?_
   have fin:∀{s':Shared}{H':Hp},Inv (X.blk s3 H3 scope ce fp) ([]++ii fp s7.heap) σ8 H' s'->Nx H'->∃m,m<n/\∃i H',Inv (X.blk s3 H3 scope ce fp) [] (wipe σ (own.map (·.2))) H' s'/\tn i s'.heap/\(∀b∈fp,H' b=none)/\W i m H':=fun {s' H'} I' nx=>by
    obtain⟨m',hm,w'⟩:=hNx H' nx
    have pin':∀b∈fp,∀o,s7.heap.get? b=some o->s'.heap.get? b=some o/\H' b=none:=fun b hb o e =>
     let z:=I'.pin (b,o) (List.mem_append_right _ (List.mem_append_right _ (dC hb e)))
     ⟨z.1,z.2.1⟩
    have hl:(wipe σ (own.map (·.2))).length=σ8.length:=by rw[← hw8,cN]
    refine⟨m',hm,i+1,H',(I'.unpinned (pins:=[])).weak hl (fun j v e=>?_),T.keep _ _ _ st7 fun b hb o e=>(pin' b hb o e).1,fun b hb=>?_,w'⟩
    ·rw[← hw8] at e
     exact (eK e).1
    ·obtain⟨o,e,_⟩:=T.obj _ _ st7 b hb
     exact (pin' b hb o e).2
   cases b with
   | false =>
    simp only[Bool.false_eq_true,if_false] at q9 ⊢
    exact fin I9 q9
   | true =>
    simp only[if_true] at q9 ⊢
    refine wpAny_mono (pe _ s9 σ8 H9 _ (Inv.wish I9 _) q9) (fun z s10 ⟨yv,H10,I10,r10,acc,hD10,hz10,nx⟩=>?_) fun e s' hx=>?_
    ·exact vX (X:=X.blk s3 H3 scope ce fp) (Inv.wish (X:=X.blkX Cc Ex s3 H3 scope ce fp) I10 fun _ _=>False) hD10 hz10 r10 fun s11 I11=>fin I11 nx
    ·obtain⟨ps,σx,Hx,sx,Ix,ea,a0,H',B,rfl,F,q⟩:=hx
     have hcf:ce.frame=X.env.frame:=by subst hce;rfl
     have:=xz O I3 f3 hcf Ix F q (use:=use) (Qf:=Qf) (D:=.ref D)
     rw[cL] at this
     exact this
 exact codeAny_compStart_list loop (T.self X.A 0 _ _ _ st4 loop)
theorem yk {Cc:Addr}{Ex:XK} (O:Outs Cc Ex X) {elt tg iter:Expr}{ifs:List Expr}{scope:Scope}{own:List (Str×Nat)}{pos:Pos}{wi:TI}{g:TG}{tt:TT}{te:TE} (hc:X.calm=true) (hN:X.N.Nodup) (hi:PI X tg iter wi) (ok:BlkOk X.N X.env.scope scope own)
  (hg:∀(s:Shared) (H:Hp) (C:Addr) (cl:List (Str×Addr)) (fp:List Addr),PG (X.blk s H scope (compEnvC scope cl C X.env) fp) tg g) (ht:∀(s:Shared) (H:Hp) (C:Addr) (cl:List (Str×Addr)) (fp:List Addr),PTs (X.blk s H scope (compEnvC scope cl C X.env) fp) ifs tt)
  (he:∀(s:Shared) (H:Hp) (C:Addr) (cl:List (Str×Addr)) (fp:List Addr),PE (X.blkX Cc Ex s H scope (compEnvC scope cl C X.env) fp) elt te) (hs:∀x,foldedSetIterable iter X.env x=pure x:=by intro _;rfl) :
  PE X (.ListComp elt [⟨tg,iter,ifs,0⟩] scope pos) (tLc wi g tt te (own.map (·.2))):=by
 intro pins s σ H Q I h
 rw[eval_ListComp]
 refine vv O hc hN I hi ok hg ht he hs h fun D C s' m H' I' q hn f=>⟨m,hn,fun h'' sb=>?_⟩
 obtain⟨f0,f1,f2,f3,f4,f5⟩:=f
 exact⟨.ref D,H',I'.turned (t':=s'.toks) (fun b o hb e=>(sb.2 b hb).trans e) f0 f1 f3 f4 f5,rfl,q⟩
end
section
variable {M:Model}{A:Around}{E:Value->Shared->Prop}{s:Shared}{env:Env}
theorem jg {pos:Pos}{T:String}{e:Expr}{rest:List Expr}{kws:List Keyword}{Q:Value->Shared->Prop}
  (h:wpAny M A (spliced (backTo pos (starEach (e::rest) env))) (fun vs s1=>wpAny M A (evalAll ((backToKw pos (keywordEach kws env)).map (·.2)))
   (fun kvs s2=>wpAny M A (call (.type T) vs (((backToKw pos (keywordEach kws env)).filterMap (·.1)).zip kvs)) Q E s2) E s1) E s)
  (he:backTo pos (starEach (e::rest) env)=(false,eval e env)::backTo pos (starEach rest env):=by rfl) (hpl:(backTo pos (starEach (e::rest) env)).any (·.1)=false:=by rfl)
  (hall:(backToKw pos (keywordEach kws env)).all (·.1.isSome)=true:=by rfl) (hkn:(backToKw pos (keywordEach kws env)).any (·.1.isNone)=false:=by rfl) :
  wpAny M A (callWith pos (.type T) [] (backTo pos (starEach (e::rest) env)) (backToKw pos (keywordEach kws env))) Q E s:=by
 have go:wpAny M A (evalArgs (.type T) true (backTo pos (starEach (e::rest) env)) (backToKw pos (keywordEach kws env))) (fun a s1=>wpAny M A (call (.type T) ([]++a.pos) a.kw) Q E s1) E s:=by
  rw[he] at h ⊢
  exact evalArgs_kwB hall h
 unfold callWith
 refine wpAny_bind (wpAny_holding (wpAny_mono go (fun a s1 h1=>wpAny_bind (wpAny_standAt ?_)) fun _ _ y=>y))
 simp only[hpl,hkn,Bool.or_false]
 refine wpAny_bind (wpAny_pure ?_)
 exact wpAny_bind (wpAny_mono h1 (fun r s2 hr=>wpAny_bind (wpAny_holding (wpAny_point (wpAny_pure hr)))) fun _ _ y=>y)
end
section
variable {prog:Program}{w:World}{A:Around}{E:Value->Shared->Prop}{s:Shared}
theorem o0 {T newId initId:String}{Bn Bi:Builtin}{args:List Value}{kw:List (Str×Value)}{S:PySem.Spec}{Q Q1:Value->Shared->Prop} (ft:TypeCalled T newId initId)
  (hct:checkTypeCall T ⟨args,kw⟩=pure ()) (hcn:checkBuiltinCall newId ⟨.type T::args,kw⟩=pure ())
  (entryN:entryFor table newId=some Bn) (entryI:entryFor table initId=some Bi) (g:Meets (Bn ⟨.type T::args,kw⟩) S) (h:S A.in1 (wants Q1 E) s)
  (hnext:∀obj s1,Q1 obj s1->s1.TypeIs obj T/\argsOk initId ⟨obj::args,kw⟩/\∃Si,Meets (Bi ⟨obj::args,kw⟩) Si/\Si A.in1 (wants (fun r s2=>r=.none/\Q obj s2) E) s1) :
  wpAny (model prog w) A (call (.type T) args kw) Q E s:=by
 obtain⟨c,tl,hmro⟩:=ft.mro
 have hmade:=ft.made
 have hsub:=ft.sub
 refine wpAny_call (codeAny_of_tree ?_)
 show wpAny _ _ (callAny (.type T) _) _ _ _
 refine wpAny_pure ⟨Code.quiet_builtin _ (by decide +kernel),codeAny_builtin F.entry_type_call ?_⟩
 rw[Around.under_plain (weight_type_call_type T args kw) (units_type_call_type T args kw)]
 have h1:=ft.notType
 have h2:=ft.canCreate
 repeat (any_goals (first | assumption | wp_step))
 refine codeAny_mono (codeAny_call_builtin ft.plain entryN (wpAny_of_eq hcn (g prog w A.in1 _ s h))) fun r s1 hr=>?_
 cases r with
 | error e=>exact hr
 | ok fl =>
  cases fl with
  | ret obj =>
   obtain⟨hT,hok,Si,gi,hsi⟩:=hnext _ _ hr
   have hli:=ft.init.lookup
   have hbi:=ft.init.bind obj
   repeat (any_goals (first | assumption | wp_step))
   refine codeAny_mono (codeAny_call_builtin ft.init.plain entryI (ft.init.check _ _ _ _ _ _ _ _ hT hok (gi prog w A.in1 _ s1 hsi))) fun r2 s2 hr2=>?_
   cases r2 with
   | error e=>exact hr2
   | ok fl2 =>
    cases fl2 with
    | ret r =>
     obtain⟨rfl,hq⟩:=hr2
     repeat (any_goals (first | assumption | wp_step))
    | _=>exact hr2.elim
  | _=>exact hr.elim
theorem kU {T newId:String}{self:Value}{rest:List Value}{kw:List (Str×Value)} (hl:typeLookup (.type T) "__init__" = pure (some (.builtin "object.__init__")))
  (hm:Bind.madeBy (.type T)=pure (some newId)) (hne:(some newId != some "object.__new__")=true) :
  Meets (Builtin.«object.__init__» ⟨self::rest,kw⟩) (fun _ R s=>s.TypeIs self T/\R (.ok (.ret .none)) s):=by
 refine Meets.of_wp fun prog w A R s hs=>?_
 obtain⟨hT,hq⟩:=hs
 cases rest with
 | nil =>
  cases kw with
  | nil=>exact wpAny_pure ⟨_,rfl,hq⟩
  | cons k kw =>
   repeat (any_goals (first | assumption | wp_step))
   exact⟨_,rfl,hq⟩
 | cons a rest =>
  repeat (any_goals (first | assumption | wp_step))
  exact⟨_,rfl,hq⟩
theorem mO (x:Str) (t u:Tok) :
  Meets (Builtin.«enumerate.__new__» ⟨[.type "enumerate",.str x t],[("start",.int 1 u)]⟩) (fun _ R s =>
   R (.ok (.ret (.ref (s.heap.push {cls:=.type (strIterType x),data:=.fields #[.str x t,.int 0 0]}).objs.size)))
    {s with heap:=(s.heap.push {cls:=.type (strIterType x),data:=.fields #[.str x t,.int 0 0]}).push {cls:=.type "enumerate",data:=.fields #[.none,.bool false,.ref s.heap.objs.size,rawInt 1,.none,.none]}}) :=
 .of_wp fun prog w A R s h=>by
  obtain⟨hp,g,d,tk,os⟩:=s
  have hsub:=sub_enumerate
  wp_walk
  refine wpAny_stack_any fun st=>wpAny_pure ?_
  split
  ·rename_i c _ _ _ _ _
   cases (c==Value.type "enumerate")
   ·wp_walk using wpAny_pyIter_strU
    exact⟨_,rfl,h⟩
   ·wp_walk using wpAny_pyIter_strU
    exact⟨_,rfl,h⟩
  ·wp_walk using wpAny_pyIter_strU
   exact⟨_,rfl,h⟩
end
section
variable {prog:Program}{w:World}{A:Around}{E:Value->Shared->Prop}{s:Shared}
theorem jt (a:Value) (u:Tok):checkTypeCall "enumerate" ⟨[a],[("start",.int 1 u)]⟩=pure ():=by kernel_rfl
theorem kY (a:Value) (u:Tok):checkBuiltinCall "enumerate.__new__" ⟨[.type "enumerate",a],[("start",.int 1 u)]⟩=pure ():=by kernel_rfl
theorem kf (o a:Value) (u:Tok):argsOk "object.__init__" ⟨[o,a],[("start",.int 1 u)]⟩:=by unfold argsOk;kernel_rfl
theorem oY {x:Str}{t u:Tok}{Q:Value->Shared->Prop}
  (h:∀h',IsEnum h' (s.heap.objs.size+1) s.heap.objs.size 1 .none->h'.IsStrIter s.heap.objs.size (strIterType x) x t 0->h'.objs.size=s.heap.objs.size+2 ->
   (∀b o,s.heap.get? b=some o->h'.get? b=some o)->Q (.ref (s.heap.objs.size+1)) {s with heap:=h'}) :
  wpAny (model prog w) A (call (.type "enumerate") [.str x t] [("start",.int 1 u)]) Q E s:=by
 refine o0 (Q1:=fun obj s₁=>s₁.TypeIs obj "enumerate"/\Q obj s₁) F.called_enumerate (jt _ u) (kY _ u) F.entry_enumerate_new F.entry_object_init
  (mO x t u) ?_ fun obj s1 hq=>⟨hq.1,kf obj _ u,_,kU F.called_enumerate.init.lookup F.called_enumerate.made (by decide),hq.1,rfl,hq.2⟩
 have hz:(s.heap.push {cls:=.type (strIterType x),data:=.fields #[.str x t,.int 0 0]}).objs.size=s.heap.objs.size+1:=Heap.size_push ..
 show _/\_
 rw[hz]
 have he:IsEnum ((s.heap.push {cls:=.type (strIterType x),data:=.fields #[.str x t,.int 0 0]}).push
   {cls:=.type "enumerate",data:=.fields #[.none,.bool false,.ref s.heap.objs.size,rawInt 1,.none,.none]}) (s.heap.objs.size+1) s.heap.objs.size 1 .none:=by
  have:=Heap.get?_push_size (s.heap.push {cls:=.type (strIterType x),data:=.fields #[.str x t,.int 0 0]})
   (o:={cls:=.type "enumerate",data:=.fields #[.none,.bool false,.ref s.heap.objs.size,rawInt 1,.none,.none]}) rfl
  rw[hz] at this;exact this
 refine⟨⟨_,he,rfl⟩,h _ he ⟨_,Heap.get?_push_of_some _ (Heap.get?_push_size _ rfl),rfl,rfl⟩ (by rw[Heap.size_push,hz]) fun b o y=>Heap.get?_push_of_some _ (Heap.get?_push_of_some _ y)⟩
theorem oO {it:Addr}{fp:List Addr}{n:Nat}{P:Nat->Value->Prop}{St:Nat->Heap->Prop} (D:Draws prog w A it fp n P St) :
  Draws prog w A it fp (n+1) (fun i x=>∃j,i=j+1/\P j x) (fun i h=>∃j,i=j+1/\St j h) where
 live:=fun i h ⟨j,_,st⟩=>D.live j h st
 frame:=fun i h h' ⟨j,e,st⟩ k=>⟨j,e,D.frame j h h' st k⟩
 item:=fun i s Q E hi ⟨j,e,st⟩ hQ=>D.item j s Q E (by omega) st fun x h' tk p st' sb=>hQ x h' tk ⟨j,e,p⟩ ⟨j+1,by omega,st'⟩ sb
 done:=fun s Q E ⟨j,e,st⟩ hE=>by
  have ej:j=n:=by omega
  subst ej
  exact D.done s Q E st hE
end
def wd (x:Str):It:=⟨fun i _=>i<x.cps.size,fun i H v H'=>∃T c,v=.ref T/\H T=none/\x.cps[i]?=some c/\H'=upd H T (.tup [.int ((i+1:Nat):Int),.str ⟨#[c]⟩]),fun i _=>x.cps.size<=i⟩
theorem ng {P:Program}{w:World}{K:W.Frag}{elts:List Expr}{kk:Nat}{tpos:Pos} (x:Str) (t:Tok) (e it:Addr) (ty:String) (hty:ty = "str_ascii_iterator"∨ty = "str_iterator") :
  Turn P w K (.Tuple elts kk tpos) (wd x) [e,it] e (fun i h=>i<=x.cps.size/\(∃old,IsEnum h e it ((i+1:Nat):Int) old)/\h.IsStrIter it ty x t i/\e≠it) where
 mem:=by simp
 obj:=fun i h st b hb=>by
  obtain⟨_,⟨old,he⟩,⟨o,ho,hc,hd⟩,_⟩:=st
  have e':b=e∨b=it:=by simpa using hb
  rcases e' with z | z
  ·rw[z];exact⟨_,he,fun v q=>nomatch q⟩
  ·rw[z];exact⟨o,ho,fun v q=>by rw[hd] at q;cases q⟩
 keep:=fun i h h' st k=>let ⟨hi,⟨old,he⟩,⟨o,ho,r⟩,hne⟩:=st;⟨hi,⟨old,k e (by simp) _ he⟩,⟨o,k it (by simp) o ho,r⟩,hne⟩
 item:=by
  intro X hP hw hK hc i pins s σ H E I hf st hg
  subst hP hw hK
  obtain⟨hi,⟨old,he⟩,hit,hne⟩:=st
  have hel:e<s.heap.objs.size:=Heap.lt_size he
  have hil:it<s.heap.objs.size:=by obtain⟨_,q,_⟩:=hit;exact Heap.lt_size q
  have D:Draws X.prog X.w X.A.in1 it [it] x.cps.size (fun i v=>∃c u,x.cps[i]?=some c/\v=.str ⟨#[c]⟩ u) (fun i h=>h.IsStrIter it ty x t i):=by
   have hh:X.A.in1.handled=none:=I.ok.hd hc
   rcases hty with z | z
   ·rw[z];exact Draws.strAscii hh it x t
   ·rw[z];exact Draws.strWide hh it x t
  refine wpAny_pyNext_enum_itemD (oO D) he ⟨i,rfl,hit⟩ (Nat.succ_lt_succ hg) hne (by simpa using hne) fun v h' tk hv ho hit' hT hsz hk=>?_
  obtain⟨j,ej,c,u,hcx,rfl⟩:=hv
  obtain rfl:j=i:=by omega
  obtain⟨j',ej',hit'⟩:=hit'
  obtain rfl:j'=j+1:=by omega
  refine⟨_,rfl,wpAny_letOwnedTupleGo_enum (s:={s with heap:=h',toks:=tk+1}) ho fun h'' he' sb=>?_⟩
  have hT2:h''.get? s.heap.objs.size=some {cls:=.type "tuple",data:=.seq #[.int ((j+1:Nat):Int) tk,.str ⟨#[c]⟩ u]}:=(sb.2 _ (Nat.ne_of_gt hel)).trans hT
  have new:ObjOk X.prog X.w (upd H s.heap.objs.size (.tup [.int ((j+1:Nat):Int),.str ⟨#[c]⟩])) h'' s.heap.objs.size (.tup [.int ((j+1:Nat):Int),.str ⟨#[c]⟩]) :=
   ⟨by show 2<=sizeLine;decide,[.int ((j+1:Nat):Int) tk,.str ⟨#[c]⟩ u],.cons ⟨_,rfl⟩ (.cons ⟨_,rfl⟩ .nil),⟨_,hT2,rfl,⟨_,rfl⟩,rfl⟩⟩
  have I1:Inv X pins σ (upd H s.heap.objs.size (.tup [.int ((j+1:Nat):Int),.str ⟨#[c]⟩])) {s with heap:=h'',toks:=tk+1} :=
   I.turnedNew (ch:=[e,it]) (fun b ob hb q=>(sb.2 b (fun z=>hb (by simp[z]))).trans (hk b ob (fun z=>hb (by simp[z])) (fun z=>hb (by simp[z])) q)) hf (Nat.le_refl _) new
  refine⟨.ref s.heap.objs.size,_,I1,rfl,⟨_,c,rfl,I.hok.fresh (Nat.le_refl _),hcx,rfl⟩,⟨hg,⟨.str ⟨#[c]⟩ u,?_⟩,?_,hne⟩,fun b hb=>?_⟩
  ·have e1:((j+1+1:Nat):Int)=((j+1:Nat):Int)+1:=by omega
   rw[e1];exact he'
  ·obtain⟨o,ho2,r⟩:=hit'
   exact⟨o,(sb.2 it (Ne.symm hne)).trans ho2,r⟩
  ·have hb':b<s.heap.objs.size:=by
    have e':b=e∨b=it:=by simpa using hb
    rcases e' with z | z
    ·rw[z];exact hel
    ·rw[z];exact hil
   rw[ai (Nat.ne_of_lt hb')]
   exact (hf b hb).1
 done:=by
  intro X hP hw hK hc i pins s σ H E I hf st hg
  subst hP hw hK
  obtain⟨hi,⟨old,he⟩,hit,hne⟩:=st
  have hg:x.cps.size<=i:=hg
  have ei:i=x.cps.size:=by omega
  have D:Draws X.prog X.w X.A.in1 it [it] x.cps.size (fun i v=>∃c u,x.cps[i]?=some c/\v=.str ⟨#[c]⟩ u) (fun i h=>h.IsStrIter it ty x t i):=by
   have hh:X.A.in1.handled=none:=I.ok.hd hc
   rcases hty with z | z
   ·rw[z];exact Draws.strAscii hh it x t
   ·rw[z];exact Draws.strWide hh it x t
  obtain⟨f0,f1,f2,f3,f4,f5⟩:=hf it (by simp)
  exact wpAny_pyNext_enum_endD D he (by rw[← ei];exact hit) fun h' eb=>⟨rfl,I.turned (t':=s.toks) (fun b o hb q=>eb b o hb q) f0 f1 f3 f4 f5⟩
 self:=fun A i s Q E st h=>let ⟨_,⟨_,he⟩,_⟩:=st;wpAny_pyIter_enum he h
def xj (te:TE):TI:=fun σ H R=>te σ H fun v H1=>∃x,v=.str x/\R (wd x) H1
theorem so {X:Cx}{e:Expr}{te:TE}{p pos tpos kp:Pos}{elts:List Expr}{kk j:Nat}{cpos:Pos} (hg:Gl X "enumerate") (hm:X.mg "enumerate" = none) (he:PE X e te)
  (hs:starEach [e] X.env=[(false,eval e X.env)]:=by rfl) (hst:backTo pos (starEach [e] X.env)=(false,eval e X.env)::backTo pos (starEach [] X.env):=by rfl) (hpl:(backTo pos (starEach [e] X.env)).any (·.1)=false:=by rfl) :
  PI X (.Tuple elts kk tpos) (.Call (.Name "enumerate" p) [e] [⟨some "start",.Constant (.int 1) j cpos,kp⟩] pos) (xj te):=by
 intro pins s σ H R I h
 refine wpAny_Call_Name_kw (d8 I hg hm boot_enumerate ?_)
 refine jg ?_ hst hpl
 rw[hs]
 show wpAny _ _ (spliced ((false,eval e X.env)::backTo pos [])) _ _ s
 refine Calls.spliced_cons (thn (he pins s σ H _ I h) fun u s1 ⟨y,H1,I1,r1,x,ex,q⟩=>?_)
 refine Calls.spliced_nil ?_
 subst ex
 obtain⟨t,rfl⟩:=r1
 refine kws_cons (wpAny_Constant_int (kws_nil ?_))
 refine oY (x:=x) (t:=t) fun h' hen hit hsz hk=>wpAny_pyIter_enum hen ?_
 have I1:Inv X pins σ H1 {s1 with toks:=s1.toks+1}:=I1.tok _
 have I2:Inv X pins σ H1 {s1 with heap:=h',toks:=s1.toks+1}:=I1.kept (t':=s1.toks+1) hk
 have hty:strIterType x = "str_ascii_iterator"∨strIterType x = "str_iterator":=by
  unfold strIterType
  split
  ·exact .inl rfl
  ·exact .inr rfl
 refine⟨s1.heap.objs.size+1,[s1.heap.objs.size+1,s1.heap.objs.size],_,_,H1,rfl,I2,ng x t (s1.heap.objs.size+1) s1.heap.objs.size (strIterType x) hty,⟨Nat.zero_le _,⟨.none,hen⟩,hit,Nat.succ_ne_self _⟩,fun b hb=>?_,q⟩
 have e':b=s1.heap.objs.size+1∨b=s1.heap.objs.size:=by simpa using hb
 have hle:s1.heap.objs.size<=b:=by
  rcases e' with z | z
  ·rw[z];exact Nat.le_add_right _ _
  ·rw[z];exact Nat.le_refl _
 exact I1.fpOk hle (I1.hok.fresh hle)
theorem pX {x:Str}{g:TG}{tb:TS}{D:Ends}{σ:St}{H:Hp} (Pv:Nat->St->Hp->Prop) (h0:Pv 0 σ H)
  (turn:∀i c σ H T,x.cps[i]?=some c->Pv i σ H->H T=none->g (.ref T) σ (upd H T (.tup [.int ((i+1:Nat):Int),.str ⟨#[c]⟩])) fun σ2 H2=>tb {D with nx:=Pv (i+1),ct:=Pv (i+1),bk:=D.nx} σ2 H2)
  (after:∀σ H,Pv x.cps.size σ H->D.nx σ H) :
  ∃W:Nat->Nat->St->Hp->Prop,(∃m,W 0 m σ H)/\∀i m σ H,W i m σ H->((wd x).stop i H/\D.nx σ H)∨((wd x).go i H/\∃N:St->Hp->Prop,(∀σ' H',N σ' H'->∃m',m'<m/\W (i+1) m' σ' H')/\∀v H',(wd x).yld i H v H'->g v σ H' fun σ2 H2=>tb {D with nx:=N,ct:=N,bk:=D.nx} σ2 H2):=by
 refine⟨fun i m σ H=>m+i=x.cps.size/\Pv i σ H,⟨x.cps.size,rfl,h0⟩,fun i m σ H ⟨hm,hp⟩=>?_⟩
 by_cases hi:i<x.cps.size
 ·refine .inr ⟨hi,Pv (i+1),fun σ' H' hp'=>⟨m-1,by omega,by omega,hp'⟩,?_⟩
  rintro v H' ⟨T,c,rfl,hT,hc,rfl⟩
  exact turn i c σ H T hc hp hT
 ·have e:i=x.cps.size:=by omega
  subst e
  exact .inl ⟨Nat.le_refl _,after σ H hp⟩
theorem gw:Manifest.owners.lookup (String.ofList ['d','e','s','r','e','v','e','r'].reverse)=some Manifest.sig_reversed:=by kernel_rfl
theorem slot_reversed_next:Slot "reversed" "__next__" "reversed.__next__" :=
 .of (owner:="reversed") (n:="__next__") (by rw[typeLookup_type,builtinLookup_eq_fast];kernel_rfl) (by decide +kernel) (by decide +kernel) (by decide +kernel) (by first | exact .inl (by decide +kernel) | exact .inr (by decide +kernel)) (by rw[isSubtype_type];kernel_rfl)
theorem cB:Slot "reversed" "__iter__" "reversed.__iter__" :=
 .of (owner:="reversed") (n:="__iter__") (by rw[typeLookup_type,builtinLookup_eq_fast];kernel_rfl) (by decide +kernel) (by decide +kernel) (by decide +kernel) (by first | exact .inl (by decide +kernel) | exact .inr (by decide +kernel)) (by rw[isSubtype_type];kernel_rfl)
theorem fz:Slot "reversed" "__init__" "object.__init__" :=
 .of (owner:="object") (n:="__init__") (by rw[typeLookup_type,builtinLookup_eq_fast];kernel_rfl) (by decide +kernel) (by decide +kernel) (by decide +kernel) (by first | exact .inl (by decide +kernel) | exact .inr (by decide +kernel)) (by rw[isSubtype_type];kernel_rfl)
theorem cn:entryFor table "reversed.__next__" = some Builtin.«reversed.__next__»:=entryFor_of_tree (by kernel_rfl)
theorem eV:entryFor table "reversed.__iter__" = some Builtin.«dict_keyiterator.__iter__» :=
 entryFor_alias (id':="dict_keyiterator.__iter__") (by kernel_rfl) (by first | rfl | decide +kernel) (by decide +kernel) (by kernel_rfl)
theorem cM (a:Value):argsOk "reversed.__next__" ⟨[a],[]⟩:=by
 unfold argsOk;rw[signature?_of (id:="reversed.__next__") (n:=['_','_','t','x','e','n','_','_']) (o:=['d','e','s','r','e','v','e','r']) (by kernel_rfl) gw];kernel_rfl
theorem ge (a:Value):argsOk "reversed.__iter__" ⟨[a],[]⟩:=by
 unfold argsOk;rw[signature?_of (id:="reversed.__iter__") (n:=['_','_','r','e','t','i','_','_']) (o:=['d','e','s','r','e','v','e','r']) (by kernel_rfl) gw];kernel_rfl
theorem jf:TypeCalled "reversed" "reversed.__new__" "object.__init__" :=
 ⟨by decide +kernel,by decide +kernel,⟨_,_,F.mro_reversed⟩,F.made_reversed,by decide +kernel,F.sub_reversed_self,fz⟩
theorem jv:typeLookup (.type "str") "__reversed__" = pure none:=by rw[typeLookup_type,builtinLookup_eq_fast];kernel_rfl
theorem pi:isSubtype (.type "str") (.type "dict")=pure false:=by rw[isSubtype_type];kernel_rfl
def nI (x:Str) (t:Tok) (i:Int):Obj:={cls:=.type "reversed",data:=.fields #[.str x t,rawInt i]}
def IsRevS (h:Heap) (a:Addr) (x:Str) (t:Tok) (i:Int):Prop:=h.get? a=some (nI x t i)
section
variable {prog:Program}{w:World}{A:Around}{E:Value->Shared->Prop}{s:Shared}
theorem IsRevS.typeIs {a:Addr}{x:Str}{t:Tok}{i:Int} (h:IsRevS s.heap a x t i):s.TypeIs (.ref a) "reversed":=⟨_,h,rfl⟩
theorem jd (x:Str) (t:Tok) (hx:¬(x.length:Int) ≥ 2 ^ 63):Meets (Builtin.«reversed.__new__» ⟨[.type "reversed",.str x t],[]⟩) (fun _ R s =>
   R (.ok (.ret (.ref s.heap.objs.size))) {s with heap:=s.heap.push (nI x t ((x.length:Int)-1)),toks:=s.toks+2}) :=
 .of_wp fun prog w A R s h=>by
  unfold Builtin.«reversed.__new__»
  refine wpAny_bind (wpAny_of_eq (newClass_reversed _) ?_)
  try dsimp only
  refine wpAny_bind (wpAny_of_eq (a:=()) (by first | rfl | kernel_rfl) ?_)
  refine wpAny_bind (wpAny_of_eq (a:=()) (by first | rfl | kernel_rfl) ?_)
  try dsimp only
  refine wpAny_bind (wpAny_specialOf (typeIs_str _ _ _) jv ?_)
  try dsimp only
  have n1:=pi
  have n2:=F.slot_str_getitem.lookup
  obtain⟨hp,g,d,tk,os⟩:=s
  wp_walk using (P.len_str hx)
  exact⟨_,rfl,h⟩
theorem kF {x:Str}{t:Tok}{Q:Value->Shared->Prop} (hx:¬(x.length:Int) ≥ 2 ^ 63) (h:Q (.ref s.heap.objs.size) {s with heap:=s.heap.push (nI x t ((x.length:Int)-1)),toks:=s.toks+2}) :
  wpAny (model prog w) A (call (.type "reversed") [.str x t]) Q E s:=by
 refine callType_new jf (by decide) (F.typeCall_reversed_1 _) (F.newCall_reversed_1 _) (fun obj=>F.args_object_init_2 obj _) F.entry_reversed_new (jd x t hx) ?_
 exact⟨⟨_,Heap.get?_push_size _ rfl,rfl⟩,h⟩
theorem jQ {it:Addr}{x:Str}{t:Tok}{i c:Nat}{Q:Option Value->Shared->Prop} (hit:IsRevS s.heap it x t (i:Int)) (hlen:x.length<=sizeLine) (hx:x.cps[i]?=some c)
  (hQ:∀h' tk tk',IsRevS h' it x t ((i:Int)-1)->Heap.SameBut it s.heap h'->Q (some (.str ⟨#[c]⟩ tk)) {s with heap:=h',toks:=tk'}):wpAny (model prog w) A (pyNext (.ref it)) Q E s:=by
 have ho:s.heap.get? it=some (nI x t (i:Int)):=hit
 have hd:(nI x t (i:Int)).data=.fields #[.str x t,rawInt (i:Int)]:=rfl
 have hi:i<x.length:=by
  unfold Str.length
  exact (Array.getElem?_eq_some_iff.mp hx).1
 have hs:sizeLine<2 ^ 62:=by decide
 unfold pyNext
 refine wpAny_bind (wpAny_attempt (wpAny_callSpecial?_slot (name:=Str.ofString "__next__") hit.typeIs slot_reversed_next (wpAny_call_entry slot_reversed_next hit.typeIs cn ?_ (cM _))))
 unfold Builtin.«reversed.__next__»
 refine wpAny_bind (wpAny_of_eq (a:=(Value.ref it,[])) rfl ?_)
 try dsimp only
 refine wpAny_bind (wpAny_field ho hd (x:=.str x t) rfl ?_)
 refine wpAny_bind (wpAny_field ho hd (x:=rawInt (i:Int)) rfl ?_)
 show wpAny _ _ (if (i:Int)<0 then _ else _) _ _ s
 rw[if_neg (by omega)]
 show wpAny _ _ (specialOf (.str x t) "__getitem__" >>= _) _ _ s
 refine wpAny_bind (wpAny_specialOf (typeIs_str _ _ _) F.slot_str_getitem.lookup ?_)
 show wpAny _ _ (mkInt (i:Int) >>= _) _ _ s
 refine wpAny_bind (wpAny_mkInt ?_)
 refine wpAny_bind (wpAny_attempt (P.getItem_str (c:=c) ?_ ?_ ?_))
 ·have h2:(i:Int)<2 ^ 62:=by omega
  simp only[Bool.or_eq_false_iff,decide_eq_false_iff_not]
  exact⟨by omega,by omega⟩
 ·have:seqIndex? (i:Int) x.length=some i:=by
   unfold seqIndex?
   simp only[show ¬(i:Int)<0 by omega,if_false]
   rw[if_pos (by simp;omega)]
   simp
  rw[this]
  exact hx
 ·show wpAny _ _ (field (.ref it) 1 >>= _) _ _ _
  refine wpAny_bind (wpAny_field ho hd (x:=rawInt (i:Int)) rfl ?_)
  show wpAny _ _ (setField (.ref it) 1 (rawInt ((i:Int)-1)) >>= _) _ _ _
  refine wpAny_bind (wpAny_setField_rec ho (by simp) fun h2 he2 hs2=>?_)
  exact wpAny_pure ⟨_,rfl,wpAny_pure (hQ _ _ _ he2 hs2)⟩
theorem kX {it:Addr}{x:Str}{t:Tok}{Q:Option Value->Shared->Prop} (hh:A.handled=none) (hit:IsRevS s.heap it x t (-1))
  (hQ:∀h',Heap.ExtBut it s.heap h'->Q none {s with heap:=h'}):wpAny (model prog w) A (pyNext (.ref it)) Q E s:=by
 have ho:s.heap.get? it=some (nI x t (-1)):=hit
 have hd:(nI x t (-1)).data=.fields #[.str x t,rawInt (-1)]:=rfl
 unfold pyNext
 refine wpAny_bind (wpAny_attempt (wpAny_callSpecial?_slot (name:=Str.ofString "__next__") hit.typeIs slot_reversed_next (wpAny_call_entry slot_reversed_next hit.typeIs cn ?_ (cM _))))
 unfold Builtin.«reversed.__next__»
 refine wpAny_bind (wpAny_of_eq (a:=(Value.ref it,[])) rfl ?_)
 try dsimp only
 refine wpAny_bind (wpAny_field ho hd (x:=.str x t) rfl ?_)
 refine wpAny_bind (wpAny_field ho hd (x:=rawInt (-1)) rfl ?_)
 show wpAny _ _ (if (-1:Int)<0 then _ else _) _ _ s
 rw[if_pos (by decide)]
 refine wpAny_bind (wpAny_rule ?_)
 refine wpAny_bind ?_
 show wpAny _ _ (setField (.ref it) 1 (rawInt (-1)) >>= fun _=>setField (.ref it) 0 .none) _ _ s
 refine wpAny_bind (wpAny_setField_rec ho (by simp) fun h2 he2 hs2=>?_)
 refine wpAny_setField_rec he2 (by simp) fun h3 he3 hs3=>?_
 refine wpAny_bind ?_
 show wpAny _ _ (newExc (.type "StopIteration") [] >>= _) _ _ _
 refine wpAny_bind ?_
 simp only[newExc,newTuple]
 refine wpAny_bind (wpAny_newObj_type ?_ (by size_fits))
 refine wpAny_bind (m:=firstArgMember _ _) (wpAny_of_eq (a:=Value.none) (by first | rfl | (simp only[firstArgMember];rfl)) ?_)
 refine wpAny_newObj_type ?_ (by size_fits)
 simp only[raiseNew]
 refine wpAny_bind (wpAny_handled ?_)
 first | rw[show A.in1.handled=none from hh] | rw[hh]
 refine wpAny_bind (wpAny_pure (wpAny_throw ?_))
 refine wpAny_bind (wpAny_isInstance (T:="StopIteration") (b:=true) ⟨_,Heap.get?_push_size _ rfl,rfl⟩ isSubtype_stop ?_)
 have eb:Heap.ExtBut it s.heap h3:=fun b o hb q=>hs3.extBut b o hb (hs2.extBut b o hb q)
 exact wpAny_pure (hQ _ ((eb.push _).push _))
theorem lN {it:Addr}{x:Str}{t:Tok}{i:Int}{Q:Value->Shared->Prop} (hit:IsRevS s.heap it x t i) (h:Q (.ref it) s):wpAny (model prog w) A (pyIter (.ref it)) Q E s:=by
 refine wpAny_pyIter_slot hit.typeIs cB (wpAny_call_entry cB hit.typeIs eV ?_ (ge _))
 show wpAny _ _ (ret (.ref it)) _ _ s
 exact wpAny_pure ⟨_,rfl,"reversed",_,hit.typeIs,slot_reversed_next.lookup,h⟩
end
def wc (x:Str):It:=⟨fun i _=>i<x.cps.size,fun i H v H'=>H'=H/\∃c,x.cps[x.cps.size-1-i]?=some c/\v=.str ⟨#[c]⟩,fun i _=>x.cps.size<=i⟩
theorem rM {P:Program}{w:World}{K:W.Frag}{tg:Expr} (it:Addr) (x:Str) (t:Tok) (hlen:x.length<=sizeLine) :
  Turn P w K tg (wc x) [it] it (fun i h=>i<=x.cps.size/\IsRevS h it x t ((x.cps.size:Int)-1-(i:Nat))) where
 mem:=by simp
 obj:=fun i h st b hb=>by
  have e:b=it:=by simpa using hb
  subst e
  exact⟨_,st.2,fun v z=>nomatch z⟩
 keep:=fun i h h' st k=>⟨st.1,k it (by simp) _ st.2⟩
 item:=by
  intro X hP hw hK hc i pins s σ H E I hf st hg
  subst hP hw hK
  obtain⟨f0,f1,f2,f3,f4,f5⟩:=hf it (by simp)
  obtain⟨hin,hit⟩:=st
  have hg:i<x.cps.size:=hg
  have e1:(x.cps.size:Int)-1-((i:Nat):Int)=((x.cps.size-1-i:Nat):Int):=by omega
  rw[e1] at hit
  obtain⟨c,hx⟩:∃c,x.cps[x.cps.size-1-i]?=some c:=⟨_,Array.getElem?_eq_getElem (by omega)⟩
  refine jQ hit hlen hx fun h' tk tk' st' sb=>?_
  have e2:((x.cps.size-1-i:Nat):Int)-1=(x.cps.size:Int)-1-((i+1:Nat):Int):=by omega
  rw[e2] at st'
  have I1:Inv X pins σ H {s with heap:=h',toks:=tk'}:=I.turned (t':=tk') (fun b o hb e=>(sb.2 b hb).trans e) f0 f1 f3 f4 f5
  exact⟨_,rfl,oz (s:={s with heap:=h',toks:=tk'}) (o:=nI x t _) st' rfl rfl (by decide) ⟨.str ⟨#[c]⟩,H,I1,⟨tk,rfl⟩,⟨rfl,c,hx,rfl⟩,⟨by omega,st'⟩,fun b hb=>(hf b hb).1⟩⟩
 done:=by
  intro X hP hw hK hc i pins s σ H E I hf st hg
  subst hP hw hK
  obtain⟨f0,f1,f2,f3,f4,f5⟩:=hf it (by simp)
  obtain⟨hin,hit⟩:=st
  have hge:x.cps.size<=i:=hg
  have e1:(x.cps.size:Int)-1-((i:Nat):Int)=-1:=by omega
  rw[e1] at hit
  exact kX (I.ok.hd hc) hit fun h' eb=>⟨rfl,I.turned (t':=s.toks) (fun b o hb e=>eb b o hb e) f0 f1 f3 f4 f5⟩
 self:=fun A i s Q E st h=>lN st.2 h
def zx (ta:TA):TI:=fun σ H R=>ta σ H fun vs H1=>∃x,vs=[.str x]/\x.length<=sizeLine/\R (wc x) H1
theorem wz {X:Cx}{tg e:Expr}{ta:TA}{p pos:Pos} (hg:Gl X "reversed") (hm:X.mg "reversed" = none) (ha:PA X [e] ta) (hs:starEach [e] X.env=[(false,eval e X.env)]:=by rfl):PI X tg (.Call (.Name "reversed" p) [e] [] pos) (zx ta):=by
 intro pins s σ H R I h
 refine Call_ (d8 I hg hm kG (PyProof.Rows.callWith_type1 (thn (ha pos pins s σ H _ I h) fun us s1 ⟨vs,H1,I1,r1,q1⟩=>?_) hs rfl))
 obtain⟨x,e,hlen,q⟩:=q1
 subst e
 cases r1 with
 | cons r rr =>
  cases rr
  obtain⟨t,rfl⟩:=r
  have hsz:sizeLine<2 ^ 62:=by decide
  have e1:(x.length:Int)-1=(x.cps.size:Int)-1-((0:Nat):Int):=by unfold Str.length;omega
  refine kF (by omega) (lN (x:=x) (t:=t) (i:=(x.length:Int)-1) (Heap.get?_push_size _ rfl) ?_)
  have I2:Inv X pins σ H1 {s1 with toks:=s1.toks+2}:=I1.tok _
  refine pB (s:={s1 with toks:=s1.toks+2}) (tk:=s1.toks+2) I2 _ (rM _ x t hlen) ⟨Nat.zero_le _,?_⟩ q
  rw[← e1]
  exact Heap.get?_push_size _ rfl
theorem xb {x:Str}{g:TG}{tt:TT}{te:TE}{vs:List Nat}{σ:St}{H1:Hp}{D:Addr}{Qd:Hp->Prop} (Pv:Nat->Hp->Prop) (h0:Pv 0 (upd H1 D (.lst [])))
  (turn:∀i c H,x.cps[x.cps.size-1-i]?=some c->i<x.cps.size->Pv i H->g (.str ⟨#[c]⟩) (wipe σ vs) H fun σ2 H2=>wipe σ2 vs=wipe σ vs/\tt σ2 H2 fun b H3=>if b=true then te σ2 H3 fun y H4=>∃acc,H4 D=some (.lst acc)/\acc.length<sizeLine/\Pv (i+1) (upd H4 D (.lst (acc++[y]))) else Pv (i+1) H3)
  (after:∀H,Pv x.cps.size H->Qd H) :
  ∃W:Nat->Nat->Hp->Prop,(∃m,W 0 m (upd H1 D (.lst [])))/\∀i m H,W i m H->((wc x).stop i H/\Qd H)∨((wc x).go i H/\∃Nx:Hp->Prop,(∀H',Nx H'->∃m',m'<m/\W (i+1) m' H')/\∀v H',(wc x).yld i H v H'->g v (wipe σ vs) H' fun σ2 H2=>wipe σ2 vs=wipe σ vs/\tt σ2 H2 fun b H3 =>
   if b=true then te σ2 H3 fun y H4=>∃acc,H4 D=some (.lst acc)/\acc.length<sizeLine/\Nx (upd H4 D (.lst (acc++[y]))) else Nx H3):=by
 refine⟨fun i m H=>m+i=x.cps.size/\Pv i H,⟨x.cps.size,rfl,h0⟩,fun i m H ⟨hm,hp⟩=>?_⟩
 by_cases hi:i<x.cps.size
 ·refine .inr ⟨hi,Pv (i+1),fun H' hp'=>⟨m-1,by omega,by omega,hp'⟩,?_⟩
  rintro v H' ⟨rfl,c,hc,rfl⟩
  exact turn i c _ hc hi hp
 ·have e:i=x.cps.size:=by omega
  subst e
  exact .inl ⟨Nat.le_refl _,after H hp⟩
open AutoSeq1 (wpAny_loadPart')
open MeetsSeq MeetsSeq2 MeetsSeq3 SeqRoads2 SeqAt
theorem pY {M:Model}{A:Around}{E:Value->Shared->Prop}{s:Shared}{β:Type} (f:Nat->β->Sem (ForInStep β)) (I:List Nat->β->Shared->Prop) (Q:β->Shared->Prop)
  (turn:∀x rest b s,I (x::rest) b s->wpAny M A (f x b) (fun r s'=>match r with | .yield b'=>I rest b' s' | .done b'=>Q b' s') E s)
  (fin:∀b s,I [] b s->Q b s) (n:Nat) (b:β) (h:I (List.range' 0 n) b s):wpAny M A (forIn ([:n]:Std.Legacy.Range) b f) Q E s:=by
 rw[Std.Legacy.Range.forIn_eq_forIn_range']
 have e:([:n]:Std.Legacy.Range).size=n:=by simp[Std.Legacy.Range.size]
 rw[e]
 exact wpAny_forIn_list f I Q turn fin _ b h
theorem kQ (l:Addr) (items:Array Value) (n:Nat) (dd:Option Addr) (sl:Array (Option Value)) (x:Value) (e:Value->Bool) (j:Nat) (hj:j<items.size) (hy:e items[j]=true) (hno:∀m (hm:m<items.size),m<j->e items[m]=false) :
  Meets (Builtin.«tuple.index» ⟨[.ref l,x],[]⟩)
   (fun A R s=>s.heap.get? l=some {cls:=.type "tuple",dict:=dd,data:=.seq items n,slots:=sl}/\(∀y,y∈items->EqAt A.in1 s y x (e y))/\R (.ok (.ret (.int (j:Nat) s.toks))) {s with toks:=s.toks+1}) :=
 .of_wp fun prog w A R s h=>by
  obtain⟨hp,g,d,tk,os⟩:=s;obtain⟨hl,he,h⟩:=h
  wp_walk using wpAny_loadPart' hl,pY _ (fun rest b s'=>b.1=none/\s'=⟨hp,g,d,tk,os⟩/\∃i,i<=j/\rest=List.range' i (items.size-i)) _
  case turn =>
   rintro y rest b s' ⟨hb,rfl,i,hi,hr⟩
   have h0:items.size-i=(items.size-i-1)+1:=by omega
   rw[h0,List.range'_succ] at hr
   injection hr with hyi hrest
   subst hyi
   have hil:y<items.size:=by omega
   have hg:items[y]?=some items[y]:=Array.getElem?_eq_getElem hil
   rw[hg]
   refine wpAny_bind (he items[y] (Array.getElem_mem hil) prog w _ _ ?_)
   by_cases hyj:y=j
   ·subst hyj
    rw[hy]
    wp_walk
    exact⟨_,rfl,h⟩
   ·rw[hno y hil (by omega)]
    wp_walk
    exact⟨rfl,rfl,y+1,by omega,by rw[hrest];congr 1⟩
  case fin =>
   rintro⟨b1,b2⟩ s' ⟨hb,rfl,i,hi,hr⟩
   have h0:items.size-i=(items.size-i-1)+1:=by omega
   rw[h0,List.range'_succ] at hr
   cases hr
  case h =>
   exact⟨rfl,rfl,0,Nat.zero_le _,by simp⟩
open Builtin Builtin.Str StrLaws
theorem nX (s sub:Str) (hi j:Nat):∀(l:List Nat) (f:Nat),(forIn l ((#[j]:Array Nat),f) (occBody s sub hi 1)).run.fst=#[j]
 | [],f=>rfl
 | a::l,f=>by
  rw[List.forIn_cons]
  unfold occBody
  rw[if_neg (fun h=>absurd h.1.1.1 (by simp))]
  exact nX s sub hi j l f
theorem lF (s sub:Str) (hi j:Nat) (hj:j+sub.length<=hi/\subAt s sub j=true):∀(n a:Nat),a<=j->j<a+n->(∀i,a<=i->i<j->¬(i+sub.length<=hi/\subAt s sub i=true)) ->
  ∀f,f<=a->(forIn (List.range' a n) ((#[]:Array Nat),f) (occBody s sub hi 1)).run.fst=#[j]
 | 0,a,h1,h2,_,f,_=>by omega
 | n+1,a,h1,h2,hno,f,hf=>by
  rw[List.range'_succ,List.forIn_cons]
  unfold occBody
  by_cases e:a=j
  ·subst e
   rw[if_pos ⟨⟨⟨by simp,hf⟩,hj.1⟩,hj.2⟩]
   exact nX s sub hi a _ _
  ·rw[if_neg (fun h=>hno a (Nat.le_refl _) (by omega) ⟨h.1.2,h.2⟩)]
   exact lF s sub hi j hj n (a+1) (by omega) (by omega) (fun i h3 h4=>hno i (by omega) h4) f (by omega)
theorem nW {z:Str}{c j:Nat} (h:z.cps.toList[j]?=some c) (hno:∀m,m<j->z.cps.toList[m]?≠some c):occurrences z ⟨#[c]⟩ 0 z.length 1=[j]:=by
 rw[occ_eq]
 have hl:j<z.length:=by
  have:=(List.getElem?_eq_some_iff.mp h).1
  simpa[Str.length] using this
 rw[lF z ⟨#[c]⟩ z.length j ((subAt_one z c j).mpr h) _ 0 (Nat.zero_le _) (by omega) (fun i _ h4 h5=>hno i h4 ((subAt_one z c i).mp h5)) 0 (Nat.le_refl _)]
theorem pJ {z:Str}{c:Nat} (h:c∉z.cps.toList):occurrences z ⟨#[c]⟩ 0 z.length 1=[]:=by
 have e:=found_one z c
 rw[decide_eq_false h] at e
 have e2:(occurrences z ⟨#[c]⟩ 0 z.length 1).isEmpty=true:=by
  cases hb:(occurrences z ⟨#[c]⟩ 0 z.length 1).isEmpty with
  | true=>rfl
  | false=>rw[hb] at e;cases e
 exact List.isEmpty_iff.mp e2
section
variable {X:Cx}
theorem lG:MtR X "str.index" (fun x xs H Q=>∃(z:Str) (c j:Nat),x=.str z/\xs=[.str ⟨#[c]⟩]/\z.cps.toList[j]?=some c/\(∀m,m<j->z.cps.toList[m]?≠some c)/\Q (.int (j:Nat)) H):=by
 intro pins s σ H x xs v us Q I rx rs h
 obtain⟨z,c,j,rfl,rfl,hj,hno,q⟩:=h
 obtain⟨t,rfl⟩:=rx
 cases rs with
 | cons r1 rs =>
  cases rs
  obtain⟨u,rfl⟩:=r1
  refine call_gives F.slot_str_index (typeIs_str _ _ _) F.entry_str_index (F.args_str_index_2 _ _) (gives_str_index z ⟨#[c]⟩ t u j [] (nW hj hno)) ?_
  exact⟨.int (j:Nat),H,I.tok _,⟨_,rfl⟩,q⟩
def wr (K:W.Frag):V->List V->Hp->VK->Prop:=fun x xs H Q=>∃(a:Addr) (ys:List V) (y:V) (j:Nat) (z:V),x=V.ref a/\xs=[y]/\SqT K H a ys/\flatV y=true/\ys.all flatV=true/\ys[j]?=some z/\eqV z y=true /\
 (∀(m:Nat) (z':V),m<j->ys[m]?=some z'->eqV z' y=false)/\Q (.int (j:Nat)) H
theorem di:MtR X "tuple.index" (wr X.K):=by
 intro pins s σ H x xs v us Q I rx rxs h
 obtain⟨a,ys,y,j,z,rfl,rfl,hs,fy,fys,hz,hzj,hno,q⟩:=h
 cases rx
 cases rxs with
 | cons ry rt =>
  rename_i uy ut
  cases rt
  obtain⟨its,rv,⟨⟨cls,dd,data,sl⟩,ho,hc,n,hd⟩,hlen⟩:=I.tuple hs
  simp only at hc hd
  subst hc hd
  obtain⟨u,hu,ru⟩:=rv.get hz
  obtain⟨hjl,hje⟩:=List.getElem?_eq_some_iff.mp hu
  have hvl:=rv.length
  have hj:j<its.toArray.size:=by simpa using hjl
  refine call_meets F.slot_tuple_index ⟨_,ho,rfl⟩ F.entry_tuple_index (F.args_tuple_index_2 _ _)
   (kQ a its.toArray n dd sl uy (eqU y) j hj ?_ ?_) ⟨ho,fun u' hu'=>cF ry fy rv fys u' (by simpa using hu'),?_⟩
  ·have e1:its.toArray[j]=u:=by simpa using hje
   rw[e1,km ru (rk fys hz)]
   exact hzj
  ·intro m hm hmj
   have hml:m<its.length:=by simpa using hm
   have hmy:m<ys.length:=by omega
   have hy':ys[m]?=some ys[m]:=List.getElem?_eq_getElem hmy
   obtain⟨u2,hu2,ru2⟩:=rv.get hy'
   obtain⟨_,hme⟩:=List.getElem?_eq_some_iff.mp hu2
   have e1:its.toArray[m]=u2:=by simpa using hme
   rw[e1,km ru2 (rk fys hy')]
   exact hno m _ hmj hy'
  ·exact⟨.int (j:Nat),H,I.tok _,⟨_,rfl⟩,q⟩
theorem wC:OpR X (binaryOp .Mult) (fun x y H Q=>∃(c:Nat) (n:Nat),x=.str ⟨#[c]⟩/\y=.int n/\1<=n/\n<=1000/\Q (.str ⟨(List.replicate n c).toArray⟩) H):=by
 intro pins s σ H x y v u Q I rx ry h
 obtain⟨c,n,rfl,rfl,h1,h2,q⟩:=h
 obtain⟨t,rfl⟩:=rx
 obtain⟨t',rfl⟩:=ry
 have el:(⟨#[c]⟩:Str).length=1:=rfl
 refine P.mul_str ?_ ?_ ?_ ?_
 ·simp only[Bool.or_eq_false_iff,decide_eq_false_iff_not]
  exact⟨by omega,by omega⟩
 ·intro _ _
  rw[el]
  have:(1:Int)<=(2 ^ 63-1) / (n:Int):=by
   rw[Int.le_ediv_iff_mul_le (by omega)]
   omega
  omega
 ·intro _ _
  rw[el]
  have hz:=sizeLine_eq
  show decide (1 * (n:Int).toNat > sizeLine)=false
  rw[Int.toNat_natCast]
  exact decide_eq_false (by omega)
 ·rw[if_neg (by omega)]
  have e2:((⟨#[c]⟩:Str).length==0)=false:=rfl
  rw[e2,Bool.or_false]
  split
  ·rename_i hn
   have hn':(n:Int)=1:=by simpa using hn
   have:n=1:=by omega
   subst this
   exact⟨.str ⟨#[c]⟩,H,I,⟨_,rfl⟩,q⟩
  ·have e3:(List.replicate (n:Int).toNat (#[c]:Array Nat)).foldl (·++·) #[]=(List.replicate n c).toArray:=by
    rw[Int.toNat_natCast]
    have gen:∀(k:Nat) (acc:Array Nat),(List.replicate k (#[c]:Array Nat)).foldl (·++·) acc=acc++(List.replicate k c).toArray:=by
     intro k
     induction k with
     | zero=>intro acc;simp
     | succ k ih =>
      intro acc
      rw[List.replicate_succ,List.foldl_cons,ih,List.replicate_succ]
      apply Array.toList_inj.mp
      simp
    rw[gen];simp
   rw[e3]
   have hz:=sizeLine_eq
   refine⟨?_,⟨.str ⟨(List.replicate n c).toArray⟩,H,I.tok _,⟨_,rfl⟩,q⟩⟩
   show (List.replicate n c).toArray.size<=sizeLine
   simp
   omega
end
abbrev tN (D:List (Str×Int)):List (Str×KTD.Dat):=D.map fun p=>(p.1,KTD.Dat.flat (.int p.2))
def kP (K:W.Frag) (a:Addr) (D:List (Str×Int)):Prop:=KTD.tabLook (KTD.datLooks fun b=>List.lookup b K) (fun b=>List.lookup b K) a (tN D)=true
theorem dH {k:Str}:∀{D:List (Str×Int)},KTD.datumAt k (tN D)=(KTD.datumAt k D).map fun i=>KTD.Dat.flat (.int i)
 | []=>rfl
 | (x,d)::D=>by
  show (if decide (k=x)=true then some _ else KTD.datumAt k (tN D))=Option.map _ (if decide (k=x)=true then some d else KTD.datumAt k D)
  rw[dH]
  split <;> rfl
section
variable {X:Cx}{pins:List (Addr×Obj)}{σ:St}{H:Hp}{s:Shared}
theorem Inv.tabHere (I:Inv X pins σ H s) {a:Addr}{D:List (Str×Int)} (T:kP X.K a D):KTD.Here X.base s.heap a (tN D):=⟨KTD.text_of_look (fun a o e=>I.mod.kin a o e) T,I.bk⟩
theorem mH:OpR X (compareOp .NotIn) (fun x y H Q=>∃(k:Str) (a:Addr) (D:List (Str×Int)),x=.str k/\y=.ref a/\kP X.K a D/\Q (.bl (!(KTD.datumAt k D).isSome)) H):=by
 intro pins s σ H x y v u Q I rx ry h
 obtain⟨k,a,D,rfl,rfl,T,q⟩:=h
 obtain⟨t,rfl⟩:=rx
 cases ry
 refine KTD.notin_text (I.tabHere T) ?_
 have e:KTD.inKeys k (tN D)=(KTD.datumAt k D).isSome:=by
  rw[← KTD.isSome_datumAt,dH]
  cases KTD.datumAt k D <;> rfl
 rw[e]
 exact⟨.bl _,H,I.tok _,rfl,q⟩
theorem vA:IxR X (fun x y H Q=>∃(k:Str) (a:Addr) (D:List (Str×Int)) (i:Int),x=.ref a/\y=.str k/\kP X.K a D/\KTD.datumAt k D=some i/\Q (.int i) H):=by
 intro value slice pins s σ H x y v u Q I rx ry h hs
 obtain⟨k,a,D,i,rfl,rfl,T,hi,q⟩:=h
 cases rx
 obtain⟨t,rfl⟩:=ry
 have T':=I.tabHere T
 refine subscriptTail_builtin_flat T'.typeIs slot_dict_getitem.lookup ?_ hs
 unfold getItem
 try with_reducible refine wpAny_holding ?_
 refine wpAny_bind (wpAny_sequenceKey T'.typeIs (by decide) ?_)
 refine wpAny_bind (wpAny_callSpecial?_slot (name:=Str.ofString "__getitem__") T'.typeIs slot_dict_getitem (wpAny_call_entry slot_dict_getitem T'.typeIs entry_dict_getitem ?_ (args_dict_getitem _ _)))
 show wpAny _ _ (dictGet a (.str k t) >>= _) _ _ s
 have hd:KTD.datumAt k (tN D)=some (KTD.Dat.flat (.int i)):=by rw[dH,hi];rfl
 refine wpAny_bind (KTD.dictGet_text T' (fun d v ha hv=>?_) fun hn=>?_)
 ·rw[hd] at ha
  cases ha
  obtain⟨tt,rfl⟩:=PyProof.V.Flat.int_inv hv
  exact wpAny_pure ⟨_,rfl,wpAny_pure ⟨(fun _ e=>nomatch e),.int i,H,I.tok _,⟨_,rfl⟩,q⟩⟩
 ·rw[hd] at hn
  cases hn
theorem qj:∀(xs:List V) (us:List Value),us.length=xs.length->(∀(j:Nat) (x:V) (u:Value),xs[j]?=some x->us[j]?=some u->RelV x u)->Vals xs us
 | [],[],_,_=>.nil
 | [],_::_,h,_=>by simp at h
 | _::_,[],h,_=>by simp at h
 | x::xs,u::us,h,k=>.cons (k 0 x u rfl rfl) (qj xs us (by simpa using h) fun j a b h1 h2=>k (j+1) a b h1 h2)
theorem p9 (hc:X.calm=true):eJ X (.builtin "sorted") (fun xs H Q=>∃(d:Addr) (kvs:List (Key×V)) (ns:List Int),xs=[V.ref d]/\H d=some (.dK kvs)/\kvs.map (·.1)=ns.map Sum.inl/\ns.length<64 /\
  ∀(ns':List Int) (p:Addr),ns'.Perm ns->ns'.Pairwise (·<=·)->H p=none->Q (.ref p) (upd H p (.lst (ns'.map V.int)))):=by
 intro pins s σ H vs us Q I r h
 obtain⟨d,kvs,ns,rfl,hd,hk,h64,q⟩:=h
 rw[Vals.ref1 r]
 obtain⟨hz,lo,vs,rv,hD⟩:=I.hok d _ hd
 obtain⟨ep,hat⟩:=hD.dictAt
 have hlen:vs.length=ns.length:=by rw[← rv.length];have:=congrArg List.length hk;simpa using this
 refine PySem.Calls.call_function_entry kind_sorted plain_sorted entry_sorted (args_sorted1 _) ?_
 unfold Builtin.«sorted»
 refine wpAny_bind (m:=checkCount "sorted" 1 1 _) (wpAny_pure ?_)
 refine wpAny_bind (W.kdu_collect (A:=X.A.in1) (W.kdl_dict (knd:=bf X.prog X.w) (kvs:=vs) (ep:=ep) lo) (I.ok.hd hc) hat (by rw[hlen];exact small64 h64) fun h' tk acc hkp hacc=>?_)
 have hl:acc.toList.length=vs.length:=by rw[Array.length_toList];exact hacc.1
 have hv:Vals (ns.map V.int) acc.toList:=by
  refine qj _ _ (by rw[hl,hlen,List.length_map]) fun j x u h1 h2=>?_
  obtain⟨k,y,hky,his⟩:=hacc.2 j u (by rw[← Array.getElem?_toList];exact h2)
  rw[List.getElem?_map] at h1
  cases hn:ns[j]? with
  | none=>rw[hn] at h1;cases h1
  | some n =>
   rw[hn] at h1
   cases h1
   have e1:(vs.map (·.1))[j]?=some k:=by rw[List.getElem?_map,hky];rfl
   rw[← rv.keys,hk,List.getElem?_map,hn] at e1
   cases e1
   rw[pQ] at his
   rcases keyIs_shape his with ⟨i,t,e,rfl⟩ | ⟨z,t,e,_⟩
   ·cases e
    exact⟨t,rfl⟩
   ·cases e
 have hi:=hv.ints
 have I1:Inv X pins σ H {s with heap:=h',toks:=tk}:=I.kept (t':=tk) hkp
 refine wpAny_bind (wpAny_newList ?_ (by rw[hl,hlen];exact small64 h64))
 have hob:(h'.push {cls:=.type "list",data:=.seq acc.toList.toArray}).get? h'.objs.size=some {cls:=.type "list",data:=.seq acc.toList.toArray}:=Heap.get?_push_size _ rfl
 refine wpAny_bind (wpAny_holding (wpAny_call_entry PyProof.Rows.slot_list_sort ⟨_,hob,rfl⟩ PyProof.Rows.entry_list_sort
  (PyProof.Rows.list_sort_tree (s:={s with heap:=h'.push {cls:=.type "list",data:=.seq acc.toList.toArray},toks:=tk}) hob hi (by rw[hi.length];exact h64) fun out ns' h1 h2 h3=>⟨.none,rfl,?_⟩) (PyProof.Rows.args_list_sort _)))
 obtain⟨ep',he'⟩:=PyProof.Rows.sortedHeap_at (vs:=acc.toList) (out:=out) hob
 have hlen':(ns'.map V.int).length<=sizeLine:=by rw[List.length_map,h2.length_eq];exact small64 h64
 refine wpAny_pure ⟨_,rfl,?_⟩
 refine⟨.ref _,upd H h'.objs.size (.lst (ns'.map V.int)),I1.laid (t':=tk) (fun b u hu=>?_) (Nat.le_refl _) ⟨hlen',out.toList,ep',gh h1,he'⟩,rfl,q ns' _ h2 h3 (I1.hok.fresh (Nat.le_refl _))⟩
 have hb:b<h'.objs.size:=Heap.lt_size hu
 rw[PyProof.Rows.sortedHeap_old (Nat.ne_of_lt hb) (by rw[Heap.size_push];exact Nat.lt_succ_of_lt hb)]
 exact Heap.get?_push_of_some _ hu
end
section
variable {X:Cx}
def zh (K:W.Frag):R2:=fun x y H Q=>∃a b xs ys,x=.ref a/\y=.ref b/\SqT K H a xs/\SqT K H b ys/\ys≠[]/\xs.length+ys.length<=sizeLine /\
 (xs=[]->Q (.ref b) H)/\(xs≠[]->∀p,H p=none->Q (.ref p) (upd H p (.tup (xs++ys))))
theorem wF:OpR X (binaryOp .Add) (zh X.K):=by
 intro pins s σ H x y v u Q I rx ry h
 obtain⟨a,b,xs,ys,rfl,rfl,ha,hb,hy,hz,q1,q2⟩:=h
 by_cases hx:xs=[]
 ·cases rx
  cases ry
  obtain⟨its,r1,⟨⟨cls,dd,data,sl⟩,ho,hc,n,hd⟩,_⟩:=I.tuple ha
  obtain⟨its2,r2,⟨⟨cls2,dd2,data2,sl2⟩,ho2,hc2,n2,hd2⟩,_⟩:=I.tuple hb
  simp only at hc hd hc2 hd2
  subst hc hd hc2 hd2
  have e0:its=[]:=r1.nil_iff.mpr hx
  exact concat_meets ⟨_,ho,rfl⟩ ⟨_,ho2,rfl⟩ noFill_tuple_add seq_tuple_add F.slot_tuple_add F.entry_tuple_add (F.args_tuple_add_2 _ _)
   (tuple_addW0 a b its.toArray its2.toArray n n2 dd dd2 sl sl2 (by simp[e0])) ⟨ho,ho2,⟨.ref b,H,I,rfl,q1 hx⟩⟩
 ·exact wE pins s σ H _ _ v u Q I rx ry ⟨a,b,xs,ys,rfl,rfl,ha,hb,hx,hz,fun z=>absurd z hy,fun _=>q2 hx⟩
def wv (K:W.Frag):V->List V->Hp->VK->Prop:=fun x xs H Q=>∃(a:Addr) (ys:List V) (y:V),x=V.ref a/\xs=[y]/\SqT K H a ys/\flatV y=true/\ys.all flatV=true/\Q (.int ((ys.countP fun z=>eqV z y:Nat):Int)) H
theorem lX {x:V}:∀{xs:List V}{us:List Value},Vals xs us->xs.all flatV=true->us.countP (eqU x)=xs.countP fun y=>eqV y x
 | _,_,.nil,_=>rfl
 | y::xs,u::us,.cons r t,f=>by
  rw[List.all_cons,Bool.and_eq_true] at f
  rw[List.countP_cons,List.countP_cons,km r f.1,lX t f.2]
theorem sS:MtR X "tuple.count" (wv X.K):=by
 intro pins s σ H x xs v us Q I rx rxs h
 obtain⟨a,ys,y,rfl,rfl,hs,fy,fys,q⟩:=h
 cases rx
 cases rxs with
 | cons ry rt =>
  rename_i uy ut
  cases rt
  obtain⟨its,rv,⟨⟨cls,dd,data,sl⟩,ho,hc,n,hd⟩,hlen⟩:=I.tuple hs
  simp only at hc hd
  subst hc hd
  refine call_meets F.slot_tuple_count ⟨_,ho,rfl⟩ F.entry_tuple_count (F.args_tuple_count_2 _ _)
   (SeqAt.tuple_countAt a its.toArray n dd sl uy (eqU y)) ⟨ho,fun u' hu'=>cF ry fy rv fys u' (by simpa using hu'),?_⟩
  refine⟨.int _,H,I.tok _,⟨_,rfl⟩,?_⟩
  show Q (.int ((its.toArray.toList.countP (eqU y):Nat):Int)) H
  rw[show its.toArray.toList=its by simp,lX rv fys]
  exact q
theorem qH {as:List Addr}{us:List Value} (r:Vals (as.map V.ref) us):us=as.map Value.ref:=by
 induction as generalizing us with
 | nil=>cases r;rfl
 | cons a as ih =>
  cases r with
  | cons r1 r2 =>
   cases r1
   rw[ih r2]
   rfl
def uC (φ:Addr->Bool):Value->Bool
 | .ref a=>φ a
 | _=>false
def wu (K:W.Frag):R2:=fun x y H Q=>∃(p:Addr) (as:List Addr) (φ:Addr->PyData) (d:PyData),y=.ref p/\SqL K H p (as.map V.ref)/\(∀a∈as,Dp K H (.ref a) (φ a)/\SeqAt.shaped (φ a)=true)/\Dp K H x d/\SeqAt.shaped d=true /\
 Q (.bl (as.any fun a=>PyData.eqv (φ a) d)) H
theorem uU (hu:X.A.units+65<cLine):OpR X (compareOp .In) (wu X.K):=by
 intro pins s σ H x y v u Q I rx ry h
 obtain⟨p,as,φ,d,rfl,hq,hall,hd,sd,q⟩:=h
 cases ry
 obtain⟨its,r,pl,hz⟩:=I.list hq
 have e:=qH r
 subst e
 obtain⟨bs,r2⟩:=Dp.reads I d x v hd rx
 refine SeqAt.in_listAt (uC fun a=>PyData.eqv (φ a) d) pl.isList (fun w hw=>?_) ⟨.bl _,H,I,rfl,?_⟩
 ·obtain⟨a,ha,rfl⟩:∃a,a∈as/\Value.ref a=w:=by simpa using hw
  obtain⟨h1,h2⟩:=hall a ha
  obtain⟨cs,r1⟩:=Dp.reads I (φ a) (.ref a) (.ref a) h1 rfl
  exact W.keq_at (A:=X.A) r1 r2 h2 sd (by show X.A.units+1+64<cLine;omega)
 ·have e2:(as.map Value.ref).toArray.any (uC fun a=>PyData.eqv (φ a) d)=as.any fun a=>PyData.eqv (φ a) d:=by
   rw[show (as.map Value.ref).toArray.any (uC fun a=>PyData.eqv (φ a) d)=(as.map Value.ref).any (uC fun a=>PyData.eqv (φ a) d) by simp,List.any_map]
   rfl
  rw[e2]
  exact q
def wt (K:W.Frag):V->List V->Hp->VK->Prop:=fun x xs H Q=>∃(p:Addr) (as:List Addr) (φ:Addr->PyData) (y:V) (d:PyData) (j:Nat) (aj:Addr),x=V.ref p/\xs=[y]/\SqL K H p (as.map V.ref)/\(∀a∈as,Dp K H (.ref a) (φ a)/\SeqAt.shaped (φ a)=true)/\Dp K H y d/\SeqAt.shaped d=true /\
 as[j]?=some aj/\PyData.eqv (φ aj) d=true/\(∀(m:Nat) (a:Addr),m<j->as[m]?=some a->PyData.eqv (φ a) d=false)/\Q (.int (j:Nat)) H
theorem sR (hu:X.A.units+65<cLine):MtR X "list.index" (wt X.K):=by
 intro pins s σ H x xs v us Q I rx rxs h
 obtain⟨p,as,φ,y,d,j,aj,rfl,rfl,hs,hall,hd,sd,hj,hjy,hno,q⟩:=h
 cases rx
 cases rxs with
 | cons ry rt =>
  rename_i uy ut
  cases rt
  obtain⟨its,rv,⟨⟨cls,dd,data,sl⟩,n,ho,hc,hdn,hdt⟩,hlen⟩:=I.list hs
  simp only at hc hdt
  subst hc hdt
  have e:=qH rv
  subst e
  obtain⟨bs,r2⟩:=Dp.reads I d y uy hd ry
  obtain⟨hjl,hje⟩:=List.getElem?_eq_some_iff.mp hj
  have hsl:=sizeLine_eq
  rw[List.length_map] at hlen
  have hjs:j<(as.map Value.ref).toArray.size:=by simpa using hjl
  refine call_meets F.slot_list_index ⟨_,ho,rfl⟩ F.entry_list_index (F.args_list_index_2 _ _)
   (SeqAt.list_indexAt p (as.map Value.ref).toArray n dd sl uy (uC fun a=>PyData.eqv (φ a) d) j hjs (by omega) ?_ ?_) ⟨ho,fun w hw=>?_,?_⟩
  ·have e1:(as.map Value.ref).toArray[j]=.ref aj:=by simp[hje]
   rw[e1]
   exact hjy
  ·intro m hm hmj
   have hml:m<as.length:=by simpa using hm
   have e1:(as.map Value.ref).toArray[m]=.ref as[m]:=by simp
   rw[e1]
   exact hno m _ hmj (List.getElem?_eq_getElem hml)
  ·obtain⟨a,ha,rfl⟩:∃a,a∈as/\Value.ref a=w:=by simpa using hw
   obtain⟨h1,h2⟩:=hall a ha
   obtain⟨cs,r1⟩:=Dp.reads I (φ a) (.ref a) (.ref a) h1 rfl
   exact W.keq_at (A:=X.A) r1 r2 h2 sd (by show X.A.units+1+64<cLine;omega)
  ·exact⟨.int (j:Nat),H,I.tok _,⟨_,rfl⟩,q⟩
end
end L2
end
section
set_option maxRecDepth 100000
set_option maxHeartbeats 2000000
namespace L2
open PySem
section
variable {prog:Program}{w:World}{A:Around}{E:Value->Shared->Prop}{s:Shared}
theorem pM {ti tp:Addr}{n:Nat}{us:Array Value}{u:Value}{Q:Value->Shared->Prop} (hi:s.heap.IsTupleIter ti tp n) (ht:s.heap.IsTuple tp us) (hu:us[n]?=some u)
  (k:∀h',h'.IsTupleIter ti tp (n+1)->Heap.SameBut ti s.heap h'->Q u {s with heap:=h'}):wpAny (model prog w) A (Builtin.SmallTypes.nextOf (.ref ti)) Q E s:=by
 obtain⟨o1,g1,c1,d1⟩:=id hi
 obtain⟨o2,g2,_,m2,d2⟩:=ht
 unfold Builtin.SmallTypes.nextOf
 refine wpAny_bind (wpAny_callSpecial?_slot (name:=Str.ofString "__next__") hi.typeIs F.slot_tuple_iterator_next (wpAny_call_entry F.slot_tuple_iterator_next hi.typeIs F.entry_tuple_iterator_next ?_ (F.args_tuple_iterator_next_1 _)))
 show wpAny _ _ (field (.ref ti) 0 >>= _) _ _ s
 refine wpAny_bind (wpAny_field g1 d1 (x:=.ref tp) rfl ?_)
 show wpAny _ _ (if (Value.ref tp==Value.none)=true then _ else _) _ _ s
 rw[if_neg (show ¬((Value.ref tp==Value.none)=true) from Bool.false_ne_true)]
 show wpAny _ _ (field (.ref ti) 1 >>= _) _ _ s
 refine wpAny_bind (wpAny_field g1 d1 (x:=.int n 0) rfl ?_)
 show wpAny _ _ (seqItems? (.ref tp) >>= _) _ _ s
 refine wpAny_bind (wpAny_seqItems g2 d2 ?_)
 simp only[Int.toNat_natCast,hu]
 refine wpAny_bind (wpAny_setField g1 d1 (by simp) (wpAny_pure ⟨u,rfl,wpAny_pure (k _ ?_ (Heap.SameBut.update ..))⟩))
 exact⟨_,Heap.get?_update_self _ g1 (Obj.isFreed_of_fields (Obj.data_mapFields d1 _)),(Obj.cls_mapFields ..).trans c1,by rw[Obj.data_mapFields d1];simp[rawInt]⟩
theorem sO {ti tp:Addr}{n:Nat}{us:Array Value}{Q:Value->Shared->Prop} (hh:A.handled=none) (hi:s.heap.IsTupleIter ti tp n) (ht:s.heap.IsTuple tp us) (hu:us[n]?=none)
  (k:∀h' e,Heap.ExtBut ti s.heap h'->(∃o,h'.get? e=some o/\o.cls=.type "StopIteration")->E (.ref e) {s with heap:=h'}):wpAny (model prog w) A (Builtin.SmallTypes.nextOf (.ref ti)) Q E s:=by
 obtain⟨o1,g1,c1,d1⟩:=id hi
 obtain⟨o2,g2,_,m2,d2⟩:=ht
 unfold Builtin.SmallTypes.nextOf
 refine wpAny_bind (wpAny_callSpecial?_slot (name:=Str.ofString "__next__") hi.typeIs F.slot_tuple_iterator_next (wpAny_call_entry F.slot_tuple_iterator_next hi.typeIs F.entry_tuple_iterator_next ?_ (F.args_tuple_iterator_next_1 _)))
 show wpAny _ _ (field (.ref ti) 0 >>= _) _ _ s
 refine wpAny_bind (wpAny_field g1 d1 (x:=.ref tp) rfl ?_)
 show wpAny _ _ (if (Value.ref tp==Value.none)=true then _ else _) _ _ s
 rw[if_neg (show ¬((Value.ref tp==Value.none)=true) from Bool.false_ne_true)]
 show wpAny _ _ (field (.ref ti) 1 >>= _) _ _ s
 refine wpAny_bind (wpAny_field g1 d1 (x:=.int n 0) rfl ?_)
 show wpAny _ _ (seqItems? (.ref tp) >>= _) _ _ s
 refine wpAny_bind (wpAny_seqItems g2 d2 ?_)
 simp only[Int.toNat_natCast,hu]
 refine wpAny_bind (wpAny_rule (wpAny_bind (wpAny_setField g1 d1 (by simp) ?_)))
 show wpAny _ _ (newExc (.type "StopIteration") [] >>= _) _ _ _
 refine wpAny_bind ?_;simp only[newExc,newTuple]
 refine wpAny_bind (wpAny_newObj_type ?_ (by size_fits));refine wpAny_bind (m:=firstArgMember _ _) (wpAny_of_eq (a:=Value.none) (by first | rfl | (simp only[firstArgMember];rfl)) ?_)
 refine wpAny_newObj_type ?_ (by size_fits);simp only[raiseNew]
 refine wpAny_bind (wpAny_handled ?_);first | rw[show A.in1.handled=none from hh] | rw[hh]
 refine wpAny_bind (wpAny_pure (wpAny_throw ?_))
 exact k _ _ (((Heap.SameBut.update ..).extBut.push _).push _) ⟨_,Heap.get?_push_size _ rfl,rfl⟩
theorem rG {z ti to a1 a2 p1 p2:Addr}{m1 m2:Nat}{us vs:Array Value}{u v c d:Value}{Q:Value->Shared->Prop} (D:ZipApart z ti to a1 a2 p1 p2) (hz:IsZip s.heap z ti to .none) (h_i:IsPair s.heap ti (.ref a1) (.ref a2)) (h_o:IsPair s.heap to c d)
  (g1:s.heap.IsListIter a1 p1 m1) (g2:s.heap.IsTupleIter a2 p2 m2) (q1:s.heap.IsList p1 us) (q2:s.heap.IsTuple p2 vs) (e1:us[m1]?=some u) (e2:vs[m2]?=some v)
  (k:∀h',IsZip h' z ti to (rawInt s.heap.objs.size)->IsPair h' to u v->h'.IsListIter a1 p1 (m1+1)->h'.IsTupleIter a2 p2 (m2+1)->IsPair h' s.heap.objs.size u v->h'.objs.size=s.heap.objs.size+1 ->
   (∀b o,b≠z->b≠to->b≠a1->b≠a2->s.heap.get? b=some o->h'.get? b=some o)->Q (.ref s.heap.objs.size) {s with heap:=h'}) :
  wpAny (model prog w) A (Builtin.«zip.__next__» ⟨[.ref z],[]⟩) (fun fin s'=>∃v,fin=.done (.ret v)/\Q v s') E s:=by
 show wpAny _ _ (field (.ref z) 2 >>= _) _ _ s
 refine wpAny_bind (wpAny_field hz rfl (x:=.bool false) rfl ?_);show wpAny _ _ (field (.ref z) 3 >>= _) _ _ s
 refine wpAny_bind (wpAny_field hz rfl (x:=.ref ti) rfl (wpAny_bind (wpAny_seqItems h_i rfl ?_)))
 show wpAny _ _ (Builtin.SmallTypes.ownedTupleIsFree (.ref z) >>= _) _ _ s
 refine wpAny_bind ?_;unfold Builtin.SmallTypes.ownedTupleIsFree
 refine wpAny_bind (wpAny_field hz rfl (x:=.none) rfl (wpAny_pure ?_));simp only[if_true]
 refine wpAny_bind (wpAny_rule (wpAny_bind (wpAny_field hz rfl (x:=.ref to) rfl ?_)))
 refine wpAny_bind (wpAny_setField_rec hz (by simp) fun hA zA sA=>?_)
 have zA:IsZip hA z ti to .ellipsis:=zA
 refine wpAny_bind ?_;simp only[List.zipIdx_cons,List.zipIdx_nil,List.forIn_cons,List.forIn_nil]
 refine wpAny_bind (wpAny_bind (wpAny_onRaise ?_));show wpAny _ _ (Builtin.SmallTypes.nextOf (.ref a1) >>= _) _ _ _
 refine wpAny_bind (wpAny_nextOf_list_item (g1.extBut sA.extBut D.i1z) (q1.extBut sA.extBut D.l1z) e1 fun hB gB sB=>wpAny_pure ?_)
 have oB:IsPair hB to c d:=sB.extBut _ _ D.TOi1 (sA.extBut _ _ D.TOz h_o)
 refine wpAny_bind (wpAny_seqItems oB rfl (wpAny_bind (wpAny_updateSeq_pair oB fun hC oC sC=>?_)))
 have oC:IsPair hC to u d:=oC
 refine wpAny_bind (wpAny_letGo (wpAny_pure ?_));refine wpAny_bind (wpAny_bind (wpAny_onRaise ?_));show wpAny _ _ (Builtin.SmallTypes.nextOf (.ref a2) >>= _) _ _ _
 refine wpAny_bind (pM (((g2.extBut sA.extBut D.i2z).extBut sB.extBut D.i12.symm).extBut sC.extBut D.TOi2.symm) (((q2.extBut sA.extBut D.l2z).extBut sB.extBut D.l2i1).extBut sC.extBut D.l2TO) e2 fun hD gD sD=>wpAny_pure ?_)
 have oD:IsPair hD to u d:=sD.extBut _ _ D.TOi2 oC
 refine wpAny_bind (wpAny_seqItems oD rfl (wpAny_bind (wpAny_updateSeq_pair oD fun hE oE sE=>?_)))
 have oE:IsPair hE to u v:=oE
 refine wpAny_bind (wpAny_letGo (wpAny_pure (wpAny_pure (wpAny_bind (wpAny_seqItems oE rfl (wpAny_bind (wpAny_newTuple ?_)))))))
 have zs:hE.objs.size=s.heap.objs.size:=by rw[sE.1,sD.1,sC.1,sB.1,sA.1]
 have zE:IsZip hE z ti to .ellipsis:=sE.extBut _ _ D.TOz.symm (sD.extBut _ _ D.i2z.symm (sC.extBut _ _ D.TOz.symm (sB.extBut _ _ D.i1z.symm zA)))
 have kE:∀b o,b≠z->b≠to->b≠a1->b≠a2->s.heap.get? b=some o->hE.get? b=some o:=fun b o b1 b2 b3 b4 q =>
  sE.extBut _ _ b2 (sD.extBut _ _ b4 (sC.extBut _ _ b2 (sB.extBut _ _ b3 (sA.extBut _ _ b1 q))))
 have gE1:hE.IsListIter a1 p1 (m1+1):=((gB.extBut sC.extBut D.TOi1.symm).extBut sD.extBut D.i12).extBut sE.extBut D.TOi1.symm
 have gE2:hE.IsTupleIter a2 p2 (m2+1):=gD.extBut sE.extBut D.TOi2.symm
 have zlt:z<hE.objs.size:=Heap.lt_size zE
 show wpAny _ _ (Builtin.SmallTypes.ownedTupleHandOut (.ref z) (.ref hE.objs.size) >>= _) _ _ _
 refine wpAny_bind ?_;unfold Builtin.SmallTypes.ownedTupleHandOut
 have zF:IsZip (hE.push {cls:=.type "tuple",data:=.seq #[u,v]}) z ti to .ellipsis:=Heap.get?_push_of_some _ zE
 refine wpAny_bind (wpAny_setField_rec zF (by simp) fun hG zG sG=>?_)
 have zG:IsZip hG z ti to (rawInt hE.objs.size):=zG
 refine wpAny_setField_rec zG (by simp) fun hI zI sI=>?_
 have zI:IsZip hI z ti to (rawInt hE.objs.size):=zI
 have up:∀b o,b≠z->hE.get? b=some o->hI.get? b=some o:=fun b o b1 q=>sI.extBut _ _ b1 (sG.extBut _ _ b1 (Heap.get?_push_of_some _ q))
 have tI:IsPair hI hE.objs.size u v:=sI.extBut _ _ (Nat.ne_of_gt zlt) (sG.extBut _ _ (Nat.ne_of_gt zlt) (Heap.get?_push_size _ rfl))
 have sz:hI.objs.size=hE.objs.size+1:=by rw[sI.1,sG.1,Heap.size_push]
 rw[zs] at zI tI sz
 refine wpAny_pure ⟨_,rfl,?_⟩;show Q (.ref hE.objs.size) _
 rw[zs]
 exact k hI zI (up _ _ D.TOz oE) (gE1.at fun o q=>up _ o D.i1z q) (gE2.at fun o q=>up _ o D.i2z q) tI sz fun b o b1 b2 b3 b4 q=>up b o b1 (kE b o b1 b2 b3 b4 q)
theorem tW {z ti to a1 a2 p1 p2:Addr}{m1 m2:Nat}{us vs:Array Value}{c d:Value}{Q:Fin->Shared->Prop} (hh:A.handled=none) (D:ZipApart z ti to a1 a2 p1 p2) (hz:IsZip s.heap z ti to .none) (h_i:IsPair s.heap ti (.ref a1) (.ref a2)) (h_o:IsPair s.heap to c d)
  (g1:s.heap.IsListIter a1 p1 m1) (g2:s.heap.IsTupleIter a2 p2 m2) (q1:s.heap.IsList p1 us) (q2:s.heap.IsTuple p2 vs) (hend:us[m1]?=none∨vs[m2]?=none)
  (k:∀h' e,(∀b o,b≠z->b≠to->b≠a1->b≠a2->s.heap.get? b=some o->h'.get? b=some o)->(∃o,h'.get? e=some o/\o.cls=.type "StopIteration")->E (.ref e) {s with heap:=h'}) :
  wpAny (model prog w) A (Builtin.«zip.__next__» ⟨[.ref z],[]⟩) Q E s:=by
 show wpAny _ _ (field (.ref z) 2 >>= _) _ _ s
 refine wpAny_bind (wpAny_field hz rfl (x:=.bool false) rfl ?_);show wpAny _ _ (field (.ref z) 3 >>= _) _ _ s
 refine wpAny_bind (wpAny_field hz rfl (x:=.ref ti) rfl (wpAny_bind (wpAny_seqItems h_i rfl ?_)))
 show wpAny _ _ (Builtin.SmallTypes.ownedTupleIsFree (.ref z) >>= _) _ _ s
 refine wpAny_bind ?_;unfold Builtin.SmallTypes.ownedTupleIsFree
 refine wpAny_bind (wpAny_field hz rfl (x:=.none) rfl (wpAny_pure ?_));simp only[if_true]
 refine wpAny_bind (wpAny_rule (wpAny_bind (wpAny_field hz rfl (x:=.ref to) rfl ?_)))
 refine wpAny_bind (wpAny_setField_rec hz (by simp) fun hA zA sA=>?_)
 have zA:IsZip hA z ti to .ellipsis:=zA
 refine wpAny_bind ?_;simp only[List.zipIdx_cons,List.zipIdx_nil,List.forIn_cons,List.forIn_nil]
 refine wpAny_bind (wpAny_bind (wpAny_onRaise ?_));show wpAny _ _ (Builtin.SmallTypes.nextOf (.ref a1) >>= _) _ _ _
 cases e1:us[m1]? with
 | none =>
  refine wpAny_bind (wpAny_nextOf_list_end hh (g1.extBut sA.extBut D.i1z) (q1.extBut sA.extBut D.l1z) e1 fun hB e sB he=>?_)
  obtain⟨oe,ho1,ho2⟩:=he
  have zB:IsZip hB z ti to .ellipsis:=sB _ _ D.i1z.symm zA
  have nz:e≠z:=fun q=>by subst q;rw[zB] at ho1;cases ho1;simp at ho2
  refine wpAny_setField_rec zB (by simp) fun hC _ sC=>k hC e (fun b o b1 _ b3 _ q=>sC.extBut _ _ b1 (sB _ _ b3 (sA.extBut _ _ b1 q))) ⟨oe,sC.extBut _ _ nz ho1,ho2⟩
 | some u =>
  have e2:vs[m2]?=none:=hend.resolve_left (by rw[e1];exact fun q=>nomatch q)
  refine wpAny_bind (wpAny_nextOf_list_item (g1.extBut sA.extBut D.i1z) (q1.extBut sA.extBut D.l1z) e1 fun hB gB sB=>wpAny_pure ?_)
  have oB:IsPair hB to c d:=sB.extBut _ _ D.TOi1 (sA.extBut _ _ D.TOz h_o)
  refine wpAny_bind (wpAny_seqItems oB rfl (wpAny_bind (wpAny_updateSeq_pair oB fun hC oC sC=>?_)))
  refine wpAny_bind (wpAny_letGo (wpAny_pure ?_));refine wpAny_bind (wpAny_bind (wpAny_onRaise ?_));show wpAny _ _ (Builtin.SmallTypes.nextOf (.ref a2) >>= _) _ _ _
  refine wpAny_bind (sO hh (((g2.extBut sA.extBut D.i2z).extBut sB.extBut D.i12.symm).extBut sC.extBut D.TOi2.symm) (((q2.extBut sA.extBut D.l2z).extBut sB.extBut D.l2i1).extBut sC.extBut D.l2TO) e2 fun hD e sD he=>?_)
  obtain⟨oe,ho1,ho2⟩:=he
  have zD:IsZip hD z ti to .ellipsis:=sD _ _ D.i2z.symm (sC.extBut _ _ D.TOz.symm (sB.extBut _ _ D.i1z.symm zA))
  have nz:e≠z:=fun q=>by subst q;rw[zD] at ho1;cases ho1;simp at ho2
  refine wpAny_setField_rec zD (by simp) fun hF _ sF=>k hF e (fun b o b1 b2 b3 b4 q=>sF.extBut _ _ b1 (sD _ _ b4 (sC.extBut _ _ b2 (sB.extBut _ _ b3 (sA.extBut _ _ b1 q))))) ⟨oe,sF.extBut _ _ nz ho1,ho2⟩
theorem nY {z ti to a1 a2 p1 p2:Addr}{m1 m2:Nat}{us vs:Array Value}{u v c d:Value}{Q:Option Value->Shared->Prop} (D:ZipApart z ti to a1 a2 p1 p2) (hz:IsZip s.heap z ti to .none) (h_i:IsPair s.heap ti (.ref a1) (.ref a2)) (h_o:IsPair s.heap to c d)
  (g1:s.heap.IsListIter a1 p1 m1) (g2:s.heap.IsTupleIter a2 p2 m2) (q1:s.heap.IsList p1 us) (q2:s.heap.IsTuple p2 vs) (e1:us[m1]?=some u) (e2:vs[m2]?=some v)
  (k:∀h',IsZip h' z ti to (rawInt s.heap.objs.size)->IsPair h' to u v->h'.IsListIter a1 p1 (m1+1)->h'.IsTupleIter a2 p2 (m2+1)->IsPair h' s.heap.objs.size u v->h'.objs.size=s.heap.objs.size+1 ->
   (∀b o,b≠z->b≠to->b≠a1->b≠a2->s.heap.get? b=some o->h'.get? b=some o)->Q (some (.ref s.heap.objs.size)) {s with heap:=h'}) :
  wpAny (model prog w) A (pyNext (.ref z)) Q E s:=by
 have tz:s.TypeIs (.ref z) "zip":=⟨_,hz,rfl⟩
 unfold pyNext
 exact wpAny_bind (wpAny_attempt (wpAny_callSpecial?_slot (name:=Str.ofString "__next__") tz F.slot_zip_next (wpAny_call_entry F.slot_zip_next tz F.entry_zip_next
  (rG D hz h_i h_o g1 g2 q1 q2 e1 e2 fun h' b1 b2 b3 b4 b5 b6 b7=>wpAny_pure (k h' b1 b2 b3 b4 b5 b6 b7)) (F.args_zip_next_1 _))))
theorem pL {z ti to a1 a2 p1 p2:Addr}{m1 m2:Nat}{us vs:Array Value}{c d:Value}{Q:Option Value->Shared->Prop} (hh:A.handled=none) (D:ZipApart z ti to a1 a2 p1 p2) (hz:IsZip s.heap z ti to .none) (h_i:IsPair s.heap ti (.ref a1) (.ref a2)) (h_o:IsPair s.heap to c d)
  (g1:s.heap.IsListIter a1 p1 m1) (g2:s.heap.IsTupleIter a2 p2 m2) (q1:s.heap.IsList p1 us) (q2:s.heap.IsTuple p2 vs) (hend:us[m1]?=none∨vs[m2]?=none)
  (k:∀h',(∀b o,b≠z->b≠to->b≠a1->b≠a2->s.heap.get? b=some o->h'.get? b=some o)->Q none {s with heap:=h'}):wpAny (model prog w) A (pyNext (.ref z)) Q E s:=by
 have tz:s.TypeIs (.ref z) "zip":=⟨_,hz,rfl⟩
 unfold pyNext
 refine wpAny_bind (wpAny_attempt (wpAny_callSpecial?_slot (name:=Str.ofString "__next__") tz F.slot_zip_next (wpAny_call_entry F.slot_zip_next tz F.entry_zip_next (tW hh D hz h_i h_o g1 g2 q1 q2 hend fun h' e hk he=>?_) (F.args_zip_next_1 _))))
 obtain⟨o,ho1,ho2⟩:=he
 exact wpAny_bind (wpAny_isInstance (T:="StopIteration") (b:=true) ⟨o,ho1,ho2⟩ isSubtype_stop (wpAny_pure (k _ hk)))
end
abbrev zt1 (h:Heap) (p1:Addr):Heap:=h.push {cls:=.type "list_iterator",data:=.fields #[.ref p1,.int 0 0]}
abbrev zt2 (h:Heap) (p1 p2:Addr):Heap:=(zt1 h p1).push {cls:=.type "tuple_iterator",data:=.fields #[.ref p2,.int 0 0]}
abbrev zt3 (h:Heap) (p1 p2:Addr):Heap:=(zt2 h p1 p2).push {cls:=.type "tuple",data:=.seq #[.ref h.objs.size,.ref (zt1 h p1).objs.size]}
abbrev zt4 (h:Heap) (p1 p2:Addr):Heap:=(zt3 h p1 p2).push {cls:=.type "tuple",data:=.seq #[.none,.none]}
abbrev zt5 (h:Heap) (p1 p2:Addr):Heap:=(zt4 h p1 p2).push {cls:=.type "zip",data:=.fields #[.none,.bool false,.bool false,.ref (zt2 h p1 p2).objs.size,.ref (zt3 h p1 p2).objs.size]}
theorem xP (p1 p2:Addr) (us vs:Array Value):Meets (Builtin.«zip.__new__» ⟨[.type "zip",.ref p1,.ref p2],[]⟩) (fun _ R s=>s.heap.IsList p1 us/\s.heap.IsTuple p2 vs /\
   R (.ok (.ret (.ref (zt4 s.heap p1 p2).objs.size))) {s with heap:=zt5 s.heap p1 p2}) :=
 .of_wp fun prog w A R s h=>by
  obtain⟨hp,g,d,tk,os⟩:=s;obtain⟨hl,ht,h⟩:=h
  have hsub:=sub_zip
  have q1:Heap.IsList (Shared.heap ⟨hp,g,d,tk,os⟩) p1 us:=hl
  have q2:Heap.IsTuple (Shared.heap ⟨hp.push {cls:=.type "list_iterator",data:=.fields #[.ref p1,.int 0 0]},g,d,tk,os⟩) p2 vs:=Heap.IsTuple.push ht _
  wp_walk using wpAny_pyIter_list q1,wpAny_pyIter_tuple q2
  exact⟨_,rfl,h⟩
section
variable {prog:Program}{w:World}{A:Around}{E:Value->Shared->Prop}{s:Shared}
theorem tT {p1 p2:Addr}{us vs:Array Value}{Q:Value->Shared->Prop} (hl:s.heap.IsList p1 us) (ht:s.heap.IsTuple p2 vs)
  (k:∀h',IsZip h' (s.heap.objs.size+4) (s.heap.objs.size+2) (s.heap.objs.size+3) .none->IsPair h' (s.heap.objs.size+2) (.ref s.heap.objs.size) (.ref (s.heap.objs.size+1))->IsPair h' (s.heap.objs.size+3) .none .none ->
   h'.IsListIter s.heap.objs.size p1 0->h'.IsTupleIter (s.heap.objs.size+1) p2 0->h'.objs.size=s.heap.objs.size+5->(∀b o,s.heap.get? b=some o->h'.get? b=some o)->Q (.ref (s.heap.objs.size+4)) {s with heap:=h'}) :
  wpAny (model prog w) A (call (.type "zip") [.ref p1,.ref p2]) Q E s:=by
 refine callType_new F.called_zip (by decide) (F.typeCall_zip_2 _ _) (F.newCall_zip_2 _ _) (fun obj=>F.args_object_init_3 obj _ _) F.entry_zip_new (xP p1 p2 us vs) ⟨hl,ht,?_⟩
 have n1:(zt1 s.heap p1).objs.size=s.heap.objs.size+1:=Heap.size_push ..
 have n2:(zt2 s.heap p1 p2).objs.size=s.heap.objs.size+2:=by rw[Heap.size_push,n1]
 have n3:(zt3 s.heap p1 p2).objs.size=s.heap.objs.size+3:=by rw[Heap.size_push,n2]
 have n4:(zt4 s.heap p1 p2).objs.size=s.heap.objs.size+4:=by rw[Heap.size_push,n3]
 have n5:(zt5 s.heap p1 p2).objs.size=s.heap.objs.size+5:=by rw[Heap.size_push,n4]
 have t5:(zt5 s.heap p1 p2).get? (zt4 s.heap p1 p2).objs.size=some _:=Heap.get?_push_size _ rfl
 have t4:(zt5 s.heap p1 p2).get? (zt3 s.heap p1 p2).objs.size=some _:=Heap.get?_push_of_some _ (Heap.get?_push_size _ rfl)
 have t3:(zt5 s.heap p1 p2).get? (zt2 s.heap p1 p2).objs.size=some _:=Heap.get?_push_of_some _ (Heap.get?_push_of_some _ (Heap.get?_push_size _ rfl))
 have t2:(zt5 s.heap p1 p2).get? (zt1 s.heap p1).objs.size=some _:=Heap.get?_push_of_some _ (Heap.get?_push_of_some _ (Heap.get?_push_of_some _ (Heap.get?_push_size _ rfl)))
 have t1:(zt5 s.heap p1 p2).get? s.heap.objs.size=some _:=Heap.get?_push_of_some _ (Heap.get?_push_of_some _ (Heap.get?_push_of_some _ (Heap.get?_push_of_some _ (Heap.get?_push_size _ rfl))))
 show _/\_
 rw[n2,n3,n4] at t5
 rw[n1,n2] at t3
 rw[n3] at t4
 rw[n1] at t2
 rw[n4]
 exact⟨⟨_,t5,rfl⟩,k _ t5 t3 t4 ⟨_,t1,rfl,rfl⟩ ⟨_,t2,rfl,rfl⟩ n5 fun b o q=>Heap.get?_push_of_some _ (Heap.get?_push_of_some _ (Heap.get?_push_of_some _ (Heap.get?_push_of_some _ (Heap.get?_push_of_some _ q))))⟩
end
end L2
end
section
set_option maxRecDepth 100000
set_option maxHeartbeats 2000000
namespace L2
open PySem PySem.Spec PyProof.Rows
def wb (K:W.Frag) (a b:Addr):It :=
 ⟨fun i H=>∃(xs ys:List V) (x y:V),SqL K H a xs/\SqT K H b ys/\xs[i]?=some x/\ys[i]?=some y,
  fun i H v H'=>∃T x y,v=.ref T/\H T=none/\H'=upd H T (.tup [x,y])/\(∀xs,SqL K H a xs->xs[i]?=some x)/\∀ys,SqT K H b ys->ys[i]?=some y,
  fun i H=>∃xs ys:List V,SqL K H a xs/\SqT K H b ys/\(xs.length<=i∨ys.length<=i)⟩
theorem rL {P:Program}{w:World}{K:W.Frag}{elts:List Expr}{kk:Nat}{tpos:Pos}{a b z ti to j1 j2:Addr} (D:ZipApart z ti to j1 j2 a b) :
  Turn P w K (.Tuple elts kk tpos) (wb K a b) [z,ti,to,j1,j2] z (fun i h=>IsZip h z ti to .none/\IsPair h ti (.ref j1) (.ref j2)/\(∃x y,IsPair h to x y)/\h.IsListIter j1 a i/\h.IsTupleIter j2 b i) where
 mem:=by simp
 obj:=fun i h st c hc=>by
  obtain⟨hz,h3,⟨x,y,h4⟩,⟨o1,e1,_,d1⟩,⟨o2,e2,_,d2⟩⟩:=st
  have e':c=z∨c=ti∨c=to∨c=j1∨c=j2:=by simpa using hc
  rcases e' with q | q | q | q | q
  ·rw[q];exact⟨_,hz,fun v q=>nomatch q⟩
  ·rw[q];exact⟨_,h3,fun v q=>nomatch q⟩
  ·rw[q];exact⟨_,h4,fun v q=>nomatch q⟩
  ·rw[q];exact⟨o1,e1,fun v q=>by rw[d1] at q;cases q⟩
  ·rw[q];exact⟨o2,e2,fun v q=>by rw[d2] at q;cases q⟩
 keep:=fun i h h' st k=>by
  obtain⟨hz,h3,⟨x,y,h4⟩,h1,h2⟩:=st
  exact⟨k z (by simp) _ hz,k ti (by simp) _ h3,⟨x,y,k to (by simp) _ h4⟩,h1.at fun o q=>k j1 (by simp) o q,h2.at fun o q=>k j2 (by simp) o q⟩
 item:=by
  intro X hP hw hK hc i pins s σ H E I hf st hg
  subst hP hw hK
  obtain⟨hz,h3,⟨x0,y0,h4⟩,h1,h2⟩:=st
  obtain⟨xs,ys,x,y,hqx,hqy,hx,hy⟩:=hg
  obtain⟨its,rv,p,_⟩:=I.list hqx
  obtain⟨its2,rv2,p2,_⟩:=I.tuple hqy
  obtain⟨u,hu,ru⟩:=rv.get hx
  obtain⟨u2,hu2,ru2⟩:=rv2.get hy
  have hzl:z<s.heap.objs.size:=Heap.lt_size hz
  refine nY D hz h3 h4 h1 h2 p.isList p2 (u:=u) (v:=u2) (by simpa using hu) (by simpa using hu2) fun h' z' o' h1' h2' hT hsz hk=>?_
  refine⟨_,rfl,wpAny_letOwnedTupleGo_zip (s:={s with heap:=h'}) z' fun h'' z'' sb=>?_⟩
  have hT2:h''.get? s.heap.objs.size=some {cls:=.type "tuple",data:=.seq #[u,u2]}:=(sb.2 _ (Nat.ne_of_gt hzl)).trans hT
  have new:ObjOk X.prog X.w (upd H s.heap.objs.size (.tup [x,y])) h'' s.heap.objs.size (.tup [x,y]) :=
   ⟨by show 2<=sizeLine;decide,[u,u2],.cons ru (.cons ru2 .nil),⟨_,hT2,rfl,⟨_,rfl⟩,rfl⟩⟩
  have I1:Inv X pins σ (upd H s.heap.objs.size (.tup [x,y])) {s with heap:=h''} :=
   I.turnedNew (t':=s.toks) (ch:=[z,ti,to,j1,j2]) (fun c o hb q=>(sb.2 c (fun q'=>hb (by simp[q']))).trans (hk c o (fun q'=>hb (by simp[q'])) (fun q'=>hb (by simp[q'])) (fun q'=>hb (by simp[q'])) (fun q'=>hb (by simp[q'])) q)) hf (Nat.le_refl _) new
  refine⟨.ref s.heap.objs.size,_,I1,rfl,⟨_,x,y,rfl,I.hok.fresh (Nat.le_refl _),rfl,fun l hl=>by rw[I.list_inj hl hqx];exact hx,fun l hl=>by rw[I.tuple_inj hl hqy];exact hy⟩,⟨z'',?_,⟨u,u2,?_⟩,?_,?_⟩,fun c hcm=>?_⟩
  ·exact (sb.2 _ D.TIz).trans (hk _ _ D.TIz D.TITO D.TIi1 D.TIi2 h3)
  ·exact (sb.2 _ D.TOz).trans o'
  ·exact h1'.at fun o q=>(sb.2 _ D.i1z).trans q
  ·exact h2'.at fun o q=>(sb.2 _ D.i2z).trans q
  ·have hlt:c<s.heap.objs.size:=by
    have e':c=z∨c=ti∨c=to∨c=j1∨c=j2:=by simpa using hcm
    rcases e' with q | q | q | q | q
    ·rw[q];exact hzl
    ·rw[q];exact Heap.lt_size h3
    ·rw[q];exact Heap.lt_size h4
    ·rw[q];obtain⟨_,e1,_⟩:=h1;exact Heap.lt_size e1
    ·rw[q];obtain⟨_,e2,_⟩:=h2;exact Heap.lt_size e2
   rw[ai (Nat.ne_of_lt hlt)]
   exact (hf c hcm).1
 done:=by
  intro X hP hw hK hc i pins s σ H E I hf st hg
  subst hP hw hK
  obtain⟨hz,h3,⟨x0,y0,h4⟩,h1,h2⟩:=st
  obtain⟨xs,ys,hqx,hqy,hend⟩:=hg
  obtain⟨its,rv,p,_⟩:=I.list hqx
  obtain⟨its2,rv2,p2,_⟩:=I.tuple hqy
  have l1:=rv.length
  have l2:=rv2.length
  have he:its.toArray[i]?=none∨its2.toArray[i]?=none:=by
   rcases hend with q | q
   ·exact .inl (by simp;omega)
   ·exact .inr (by simp;omega)
  exact pL (I.ok.hd hc) D hz h3 h4 h1 h2 p.isList p2 he fun h' hk=>⟨rfl,I.turnedL (t':=s.toks) (ch:=[z,ti,to,j1,j2]) (fun c o hb q =>
   hk c o (fun q'=>hb (by simp[q'])) (fun q'=>hb (by simp[q'])) (fun q'=>hb (by simp[q'])) (fun q'=>hb (by simp[q'])) q) hf⟩
 self:=fun A i s Q E st h=>wpAny_pyIter_zip st.1 h
def zu (K:W.Frag) (ta:TA):TI:=fun σ H R=>ta σ H fun vs H1=>∃a b xs ys,vs=[.ref a,.ref b]/\SqL K H1 a xs/\SqT K H1 b ys/\R (wb K a b) H1
theorem qM {X:Cx}{e e2:Expr}{ta:TA}{p pos tpos:Pos}{elts:List Expr}{kk:Nat} (hg:Gl X "zip") (hm:X.mg "zip" = none) (ha:PA X [e,e2] ta)
  (hs:starEach [e,e2] X.env=(false,eval e X.env)::starEach [e2] X.env:=by rfl) (hpl:(backTo pos (starEach [e2] X.env)).any (·.1)=false:=by rfl) :
  PI X (.Tuple elts kk tpos) (.Call (.Name "zip" p) [e,e2] [] pos) (zu X.K ta):=by
 intro pins s σ H R I h
 refine Call_ (d8 I hg hm md (PyProof.Rows.callWith_type1 (thn (ha pos pins s σ H _ I h) fun us s1 ⟨vs,H1,I1,r1,q1⟩=>?_) hs hpl))
 obtain⟨a,b,xs,ys,ex,hqx,hqy,q⟩:=q1
 subst ex
 cases r1 with
 | cons r rr =>
  cases rr with
  | cons r' rr =>
   cases rr
   cases r
   cases r'
   obtain⟨its,rv,p1,_⟩:=I1.list hqx
   obtain⟨its2,rv2,p2,_⟩:=I1.tuple hqy
   have la:a<s1.heap.objs.size:=p1.lt
   have lb:b<s1.heap.objs.size:=by obtain⟨_,e,_⟩:=p2;exact Heap.lt_size e
   refine tT p1.isList p2 fun h' hz h3 h4 h1 h2 hsz hk=>wpAny_pyIter_zip hz ?_
   have I2:Inv X pins σ H1 {s1 with heap:=h'}:=I1.kept (t':=s1.toks) hk
   refine⟨s1.heap.objs.size+4,[s1.heap.objs.size+4,s1.heap.objs.size+2,s1.heap.objs.size+3,s1.heap.objs.size,s1.heap.objs.size+1],_,_,H1,rfl,I2,rL (W.ktu_apart s1.heap.objs.size a b la lb),⟨hz,h3,⟨_,_,h4⟩,h1,h2⟩,fun c hcm=>?_,q⟩
   have e':c=s1.heap.objs.size+4∨c=s1.heap.objs.size+2∨c=s1.heap.objs.size+3∨c=s1.heap.objs.size∨c=s1.heap.objs.size+1:=by simpa using hcm
   have hle:s1.heap.objs.size<=c:=by
    rcases e' with z | z | z | z | z
    ·rw[z];exact Nat.le_add_right _ _
    ·rw[z];exact Nat.le_add_right _ _
    ·rw[z];exact Nat.le_add_right _ _
    ·rw[z];exact Nat.le_refl _
    ·rw[z];exact Nat.le_add_right _ _
   exact I1.fpOk hle (I1.hok.fresh hle)
theorem xt {J:It}{n:Nat}{g:TG}{tb:TS}{D:Ends}{σ:St}{H:Hp} (Pv:Nat->St->Hp->Prop) (h0:Pv 0 σ H) (hgo:∀i σ H,i<n->Pv i σ H->J.go i H) (hst:∀σ H,Pv n σ H->J.stop n H)
  (turn:∀i σ H x H',i<n->Pv i σ H->J.yld i H x H'->g x σ H' fun σ2 H2=>tb {D with nx:=Pv (i+1),ct:=Pv (i+1),bk:=D.nx} σ2 H2) (after:∀σ H,Pv n σ H->D.nx σ H) :
  ∃W:Nat->Nat->St->Hp->Prop,(∃m,W 0 m σ H)/\∀i m σ H,W i m σ H->(J.stop i H/\D.nx σ H)∨(J.go i H/\∃N:St->Hp->Prop,(∀σ' H',N σ' H'->∃m',m'<m/\W (i+1) m' σ' H')/\∀x H',J.yld i H x H'->g x σ H' fun σ2 H2=>tb {D with nx:=N,ct:=N,bk:=D.nx} σ2 H2):=by
 refine⟨fun i m σ H=>m=n-i/\i<=n/\Pv i σ H,⟨n,by simp,Nat.zero_le _,h0⟩,?_⟩
 rintro i m σ H ⟨rfl,hi,p⟩
 by_cases hlt:i<n
 ·exact .inr ⟨hgo i σ H hlt p,Pv (i+1),fun σ' H' p'=>⟨n-(i+1),by omega,rfl,hlt,p'⟩,fun x H' y=>turn i σ H x H' hlt p y⟩
 ·have e:i=n:=by omega
  subst e
  exact .inl ⟨hst σ H p,after σ H p⟩
theorem vw {J:It}{n:Nat}{g:TG}{tt:TT}{te:TE}{vs:List Nat}{σ:St}{H1:Hp}{D:Addr}{Qd:Hp->Prop} (Pv:Nat->Hp->Prop) (h0:Pv 0 (upd H1 D (.lst []))) (hgo:∀i H,i<n->Pv i H->J.go i H) (hst:∀H,Pv n H->J.stop n H)
  (turn:∀i H x H',i<n->Pv i H->J.yld i H x H'->g x (wipe σ vs) H' fun σ2 H2=>wipe σ2 vs=wipe σ vs/\tt σ2 H2 fun b H3=>if b=true then te σ2 H3 fun y H4=>∃acc,H4 D=some (.lst acc)/\acc.length<sizeLine/\Pv (i+1) (upd H4 D (.lst (acc++[y]))) else Pv (i+1) H3)
  (after:∀H,Pv n H->Qd H) :
  ∃W:Nat->Nat->Hp->Prop,(∃m,W 0 m (upd H1 D (.lst [])))/\∀i m H,W i m H->(J.stop i H/\Qd H)∨(J.go i H/\∃Nx:Hp->Prop,(∀H',Nx H'->∃m',m'<m/\W (i+1) m' H')/\∀x H',J.yld i H x H'->g x (wipe σ vs) H' fun σ2 H2=>wipe σ2 vs=wipe σ vs/\tt σ2 H2 fun b H3 =>
   if b=true then te σ2 H3 fun y H4=>∃acc,H4 D=some (.lst acc)/\acc.length<sizeLine/\Nx (upd H4 D (.lst (acc++[y]))) else Nx H3):=by
 refine⟨fun i m H=>m=n-i/\i<=n/\Pv i H,⟨n,by simp,Nat.zero_le _,h0⟩,?_⟩
 rintro i m H ⟨rfl,hi,p⟩
 by_cases hlt:i<n
 ·exact .inr ⟨hgo i H hlt p,Pv (i+1),fun H' p'=>⟨n-(i+1),by omega,rfl,hlt,p'⟩,fun x H' y=>turn i H x H' hlt p y⟩
 ·have e:i=n:=by omega
  subst e
  exact .inl ⟨hst H p,after H p⟩
theorem g6 {K:PySem.W.Frag}{a:Addr}{xs:List V}{g:TG}{tb:TS}{D:Ends}{σ:St}{H:Hp} (Pv:Nat->St->Hp->Prop) (h0:Pv 0 σ H) (hl:∀i σ H,Pv i σ H->SqL K H a xs)
  (turn:∀i x σ H T,xs[i]?=some x->Pv i σ H->H T=none->g (.ref T) σ (upd H T (.tup [.int (i:Nat),x])) fun σ2 H2=>tb {D with nx:=Pv (i+1),ct:=Pv (i+1),bk:=D.nx} σ2 H2) (after:∀σ H,Pv xs.length σ H->D.nx σ H) :
  ∃W:Nat->Nat->St->Hp->Prop,(∃m,W 0 m σ H)/\∀i m σ H,W i m σ H->((Ite K a).stop i H/\D.nx σ H)∨((Ite K a).go i H/\∃N:St->Hp->Prop,(∀σ' H',N σ' H'->∃m',m'<m/\W (i+1) m' σ' H')/\∀x H',(Ite K a).yld i H x H'->g x σ H' fun σ2 H2=>tb {D with nx:=N,ct:=N,bk:=D.nx} σ2 H2):=by
 refine xt (n:=xs.length) Pv h0 (fun i σ H hi p=>⟨xs,xs[i],hl i σ H p,by simp[hi]⟩) (fun σ H p=>⟨xs,hl _ σ H p,Nat.le_refl _⟩) ?_ after
 rintro i σ H v H' hi p ⟨T,x,rfl,hT,rfl,hx⟩
 exact turn i x σ H T (hx xs (hl i σ H p)) p hT
theorem qY {K:PySem.W.Frag}{a b:Addr}{xs ys:List V}{n:Nat} (hn:min xs.length ys.length=n) {g:TG}{tt:TT}{te:TE}{vs:List Nat}{σ:St}{H1:Hp}{D:Addr}{Qd:Hp->Prop} (Pv:Nat->Hp->Prop) (h0:Pv 0 (upd H1 D (.lst []))) (hl:∀i H,Pv i H->SqL K H a xs/\SqT K H b ys)
  (turn:∀i x y H T,xs[i]?=some x->ys[i]?=some y->Pv i H->H T=none->g (.ref T) (wipe σ vs) (upd H T (.tup [x,y])) fun σ2 H2=>wipe σ2 vs=wipe σ vs/\tt σ2 H2 fun b H3=>if b=true then te σ2 H3 fun y H4=>∃acc,H4 D=some (.lst acc)/\acc.length<sizeLine/\Pv (i+1) (upd H4 D (.lst (acc++[y]))) else Pv (i+1) H3)
  (after:∀H,Pv n H->Qd H) :
  ∃W:Nat->Nat->Hp->Prop,(∃m,W 0 m (upd H1 D (.lst [])))/\∀i m H,W i m H->((wb K a b).stop i H/\Qd H)∨((wb K a b).go i H/\∃Nx:Hp->Prop,(∀H',Nx H'->∃m',m'<m/\W (i+1) m' H')/\∀x H',(wb K a b).yld i H x H'->g x (wipe σ vs) H' fun σ2 H2=>wipe σ2 vs=wipe σ vs/\tt σ2 H2 fun b H3 =>
   if b=true then te σ2 H3 fun y H4=>∃acc,H4 D=some (.lst acc)/\acc.length<sizeLine/\Nx (upd H4 D (.lst (acc++[y]))) else Nx H3):=by
 refine vw (n:=n) Pv h0 (fun i H hi p=>⟨xs,ys,xs[i]'(by omega),ys[i]'(by omega),(hl i H p).1,(hl i H p).2,by simp,by simp⟩) (fun H p=>⟨xs,ys,(hl _ H p).1,(hl _ H p).2,by omega⟩) ?_ after
 rintro i H v H' hi p ⟨T,x,y,rfl,hT,rfl,hx,hy⟩
 exact turn i x y H T (hx xs (hl i H p).1) (hy ys (hl i H p).2) p hT
theorem yC {K:PySem.W.Frag}{a b:Addr}{xs ys:List V}{n:Nat} (hn:min xs.length ys.length=n) {g:TG}{tt:TT}{te:TE}{vs:List Nat}{σ:St}{H1:Hp}{D:Addr}{Qd:Hp->Prop} (Pv:Nat->Hp->Prop) (h0:Pv 0 (upd H1 D (.lst []))) (hl:∀i H,Pv i H->SqL K H a xs/\SqL K H b ys)
  (turn:∀i x y H T,xs[i]?=some x->ys[i]?=some y->Pv i H->H T=none->g (.ref T) (wipe σ vs) (upd H T (.tup [x,y])) fun σ2 H2=>wipe σ2 vs=wipe σ vs/\tt σ2 H2 fun b H3=>if b=true then te σ2 H3 fun y H4=>∃acc,H4 D=some (.lst acc)/\acc.length<sizeLine/\Pv (i+1) (upd H4 D (.lst (acc++[y]))) else Pv (i+1) H3)
  (after:∀H,Pv n H->Qd H) :
  ∃W:Nat->Nat->Hp->Prop,(∃m,W 0 m (upd H1 D (.lst [])))/\∀i m H,W i m H->((Itz K a b).stop i H/\Qd H)∨((Itz K a b).go i H/\∃Nx:Hp->Prop,(∀H',Nx H'->∃m',m'<m/\W (i+1) m' H')/\∀x H',(Itz K a b).yld i H x H'->g x (wipe σ vs) H' fun σ2 H2=>wipe σ2 vs=wipe σ vs/\tt σ2 H2 fun b H3 =>
   if b=true then te σ2 H3 fun y H4=>∃acc,H4 D=some (.lst acc)/\acc.length<sizeLine/\Nx (upd H4 D (.lst (acc++[y]))) else Nx H3):=by
 refine vw (n:=n) Pv h0 (fun i H hi p=>⟨xs,ys,xs[i]'(by omega),ys[i]'(by omega),(hl i H p).1,(hl i H p).2,by simp,by simp⟩) (fun H p=>⟨xs,ys,(hl _ H p).1,(hl _ H p).2,by omega⟩) ?_ after
 rintro i H v H' hi p ⟨T,x,y,rfl,hT,rfl,hx,hy⟩
 exact turn i x y H T (hx xs (hl i H p).1) (hy ys (hl i H p).2) p hT
structure RoomH (k:Nat) (A:Around):Prop where
 dp:A.depth+3 * k+5<recursionLimit
 un:A.units+16 * k+200<cLine
theorem Room.toH {k:Nat}{A:Around} (r:Room k A):RoomH k A:=⟨r.dp,r.un⟩
theorem RoomH.mark {k:Nat}{A:Around} (r:RoomH k A) (o:Option Value):RoomH k (A.mark o):=⟨r.dp,r.un⟩
theorem RoomH.deeper {k:Nat}{A:Around} (r:RoomH (k+1) A) (env:Env):RoomH k (A.deeper env) :=
 ⟨by have:=r.dp;show A.depth+1+3 * k+5<_;omega,by have:=r.un;show A.units+3+16 * k+200<_;omega⟩
theorem RoomH.make {k:Nat}{A:Around} (r:RoomH (k+1) A) (C:Addr) (us:List Value) (kw:List (Str×Value)):RoomH k (A.under (.builtin "type.__call__" ⟨.ref C::us,kw⟩)) :=
 ⟨by have:=r.dp;rw[jV];omega,by have:=r.un;rw[jU];omega⟩
structure FnOkH (P:Program) (w:World) (K:W.Frag) (mg:Str->Option Value) (base:Heap) (k:Nat) (f:Addr) (fd:FuncData) (ps:List Str) (sp:Sp):Prop where
 len:∀vs H Q E,sp vs H Q E->vs.length=ps.length
 run:∀(A:Around) (outer:List Env) (s:Shared) (H:Hp) (args:Args) (us:List Value) (vs:List V) (Q:VK) (E:XK),RoomH k A->Env0 P w K mg base A outer s H->BindsTo s fd args (ps.zip us)->Vals vs us->sp vs H Q E ->
  codeAny (model P w) A (.call (.ref f) args) (CR CX0 outer P w H s Q E) s
abbrev cxH (P:Program) (w:World) (K:W.Frag) (mg:Str->Option Value) (base:Heap) (N:List Str) (qual:Str) (scope:Scope) (f:Addr) (cd:Value) (A:Around) (outer:List Env) (s:Shared) (H:Hp) (E:XK):Cx :=
 {cxOf CX0 P w K mg base N qual scope f cd A outer s H E with calm:=false,xe:=fun _ _=>False}
section
variable {P:Program}{w:World}{K:W.Frag}{mg:Str->Option Value}{base:Heap}
theorem Env0.marked {A:Around}{outer:List Env}{s:Shared}{H:Hp} (e:Env0 P w K mg base A outer s H):Env0 P w K mg base {A with handled:=none} outer s H:=⟨e.frames,e.mod,e.bs,e.bsz,e.funs,e.frf,e.hok,e.bare⟩
theorem Fun.okH {x qual:Str}{st:Stmt}{f:Addr}{fd:FuncData}{N ps:List Str}{k:Nat}{sp:Sp} (F:Fun K x qual st f fd) (S:FnScope N ps (ad st)) (len:∀vs H Q E,sp vs H Q E->vs.length=ps.length)
  (hbody:∀(cdv:Value) (A:Around) (outer:List Env) (s:Shared) (H:Hp) (vs:List V) (Q:VK) (E:XK),RoomH k (A.deeper (envOfC qual (ad st) s.heap.objs.size f cdv))->sp vs H Q E ->
   ∃t,PSs (cxH P w K mg base N qual (ad st) f cdv A outer s H E) (au st) t/\t {nx:=fun _ H'=>Q .non H',rt:=Q} (start N vs) H):FnOkH P w K mg base (k+1) f fd ps sp:=by
 obtain⟨oc,od,kV,doc,pm,an,cdv,ct,osl,rfl,lk,hcd⟩:=F.ex
 refine⟨len,fun A outer s H args us vs Q E hr e0 hb r hsp=>?_⟩
 have hl:=len _ _ _ _ hsp
 have inK:K.In s.heap:=e0.mod.kin.keeps fun b o e=>(e0.bs b o e).1
 have nl:s.heap.NoLimit:=e0.mod.nolimit.keeps fun b o e=>(e0.bs b o e).1
 have hkd:∀y∈ps.zip us,(ad st).names.lookup y.1=some .local ∨ ((ad st).names.lookup y.1=some .cell/\((cellsFrom (s.heap.objs.size+1) (ad st).names []).lookup y.1).isSome=true):=fun⟨n,v⟩ hy=>by
  rcases S.par n (List.of_mem_zip hy).1 with q | q
  ·exact .inl q
  ·exact .inr ⟨q,W.cellsFrom_some _ _ _ (.inl q)⟩
 refine codeAny_call_function (by have:=hr.dp;omega) (inK _ _ lk) rfl S.co S.gen rfl (W.codeRec_of inK hcd) (hb _ _ _ _ ?_)
 refine wpAny_newFunctionEnv_cells S.kind hkd fun env he s1 x=>?_
 subst he
 refine⟨nl.keeps x.toInCall.keep,codeAny_func ?_⟩
 obtain⟨t,ht,hq⟩:=hbody cdv A outer s H vs Q E (hr.deeper _) hsp
 have I0:Inv (cxOf CX0 P w K mg base N qual (ad st) f cdv {A with handled:=none} outer s H E) [] (start N vs) H s1:=lP S rfl e0.marked hl r x
 have I:Inv (cxH P w K mg base N qual (ad st) f cdv A outer s H E) [] (start N vs) H s1:=⟨⟨I0.ok.mod,I0.ok.kind,I0.ok.glob,I0.ok.blt,I0.ok.above,I0.ok.inj,I0.ok.has,I0.ok.cab,(fun z=>nomatch z),Around.frames_deeper e0.frames,I0.ok.stk,I0.ok.exf,I0.ok.bs,I0.ok.bsz,I0.ok.noex,I0.ok.exfs,I0.ok.funs,I0.ok.frf⟩,I0.os,I0.bare,I0.base,I0.loc,I0.cell,I0.free,I0.freeC,I0.pin,I0.hok,I0.len⟩
 refine wpAny_noRaise (wpAny_mono (ht [] s1 (start N vs) H _ I hq) (fun fl s' hs=>?_) fun e s' hs=>hs)
 have fin:∀{σ':St}{H':Hp}{v:V}{u:Value},Inv (cxH P w K mg base N qual (ad st) f cdv A outer s H E) [] σ' H' s'->RelV v u->Q v H'->CE outer P w H s Q u s' :=
  fun {σ' H' v u} J rv q=>⟨v,H',J.os,J.bare,J.base,J.hok,rv,q⟩
 cases fl with
 | ret u =>
  obtain⟨v,σ',H',J,rv,q⟩:=hs
  exact fin J rv q
 | next =>
  obtain⟨σ',H',J,q⟩:=hs
  exact fin (v:=V.non) (u:=Value.none) J rfl q
 | brk =>
  obtain⟨_,_,_,q⟩:=hs
  exact False.elim q
 | cont =>
  obtain⟨_,_,_,q⟩:=hs
  exact False.elim q
end
section
variable {X:Cx}{k:Nat}{f C:Addr}{fd:FuncData}{ps:List Str}{sp:Sp}{dvs:List V}{ds:List Value}{x:Str}{p pos:Pos}{e:Expr}{es:List Expr}{t:TA}
theorem rX {pins:List (Addr×Obj)}{σ:St}{H:Hp}{s:Shared}{Q:VK}{us:List Value}{vs:List V} (M:Mk X.K C f) (F:FnOkH X.prog X.w X.K X.mg X.base k f fd ps sp) (hr:RoomH (k+1) X.A) (hb:Binds X.K fd ps ds) (hd:Vals dvs ds) (I:Inv X pins σ H s) (r:Vals vs us)
  (h:∀x dx,H x=none->H dx=none->dx≠x->sp (.ref x::(vs++dvs)) (upd (upd H dx (.own x)) x (.ins C dx [])) (fun v H2=>v=.non/\Q (.ref x) H2) E0):wpAny (model X.prog X.w) X.A (call (.ref C) us) (EP X pins σ Q) X.xe s:=by
 have hq:=h (s.heap.objs.size+1) s.heap.objs.size (I.hok.fresh (Nat.le_succ _)) (I.hok.fresh (Nat.le_refl _)) (Nat.ne_of_lt (Nat.lt_succ_self _))
 have J:=Inv.made (C:=C) I
 have r2:Vals (V.ref (s.heap.objs.size+1)::(vs++dvs)) (Value.ref (s.heap.objs.size+1)::(us++ds)):=.cons rfl (r.append hd)
 have hl:(Value.ref (s.heap.objs.size+1)::us++ds).length=ps.length:=by
  have e:=r2.length
  rw[F.len _ _ _ _ hq] at e
  exact e.symm
 refine wpAny_call (oj (f:=f) I.kIn M.makes M.init (beq_iff_eq.mp M.fn) (codeAny_mono (F.run _ X.stack _ _ ⟨Value.ref (s.heap.objs.size+1)::us,[]⟩ (Value.ref (s.heap.objs.size+1)::(us++ds)) _ _ E0 (hr.make C us [])
  (J.env0.make C us []) (hb _ (Value.ref (s.heap.objs.size+1)::us) J.kIn hl) r2 hq) fun r s' hq'=>?_))
 cases r with
 | error e=>exact False.elim hq'
 | ok fl =>
  cases fl with
  | ret u =>
   obtain⟨v,H',J2,rv,ev,q3⟩:=J.after hq'
   subst ev
   exact⟨rv,⟨V.ref (s.heap.objs.size+1),H',J2,rfl,q3⟩⟩
  | next=>exact False.elim hq'
  | brk=>exact False.elim hq'
  | cont=>exact False.elim hq'
theorem uP (M:Mk X.K C f) (F:FnOkH X.prog X.w X.K X.mg X.base k f fd ps sp) (hr:RoomH (k+1) X.A) (hg:Gl X x) (hm:X.mg x=some (.ref C)) (hb:Binds X.K fd ps ds) (hd:Vals dvs ds) (ha:PA X (e::es) t) (hdb:(x==("__debug__":Str))=false:=by decide)
  (he:starEach (e::es) X.env=(false,eval e X.env)::starEach es X.env:=by rfl) (hpl:(backTo pos (starEach es X.env)).any (·.1)=false:=by rfl):PE X (.Call (.Name x p) (e::es) [] pos) (xE C sp dvs E0 t):=by
 intro pins s σ H Q I h
 refine wpAny_Call_Name_kw (cU I hg hm ?_ hdb)
 refine W.callWith_K (h₀:=X.base) I.ok.mod.kin M.kp (thn (ha pos pins s σ H _ I h) fun us s1 ⟨vs,H1,I1,r,q⟩=>⟨I1.kIn,?_⟩) he hpl
 exact rX M F hr hb hd I1 r q
end
section
variable {X:Cx}{o e:Expr}{es:List Expr}{to:TE}{t:TA}{name:Str}{apos cpos:Pos}{id:String}{r:V->List V->Hp->VK->Prop}
def zX (r:V->List V->Hp->VK->Prop) (to:TE) (t:TA):TE:=fun σ H Q=>to σ H fun x H1=>(∃p xs,x=.ref p/\H1 p=some (.tup xs))/\t σ H1 fun xs H2=>r x xs H2 Q
theorem uS (slot:Slot "tuple" name id) (hty:typeOf (.builtin id)=pure (.type "method_descriptor")) (hm:MtR X id r) (ho:PE X o to) (ha:PA X (e::es) t) (hbase:attributeBase o name X.env (eval o X.env)=eval o X.env:=by rfl)
  (hfew:((backTo cpos (starEach (e::es) X.env)).all (fun x=>!x.1)&&(backToKw cpos (keywordEach [] X.env)).all (fun x=>x.1.isSome)&&decide ((e::es).length+([]:List Keyword).length+(if ([]:List Keyword).isEmpty then 0 else 1)<30))=true:=by rfl)
  (hline:(apos.endLine==cpos.line)=true:=by rfl) (hs:starEach (e::es) X.env=(false,eval e X.env)::starEach es X.env:=by rfl) (hplain:(backTo cpos (starEach es X.env)).any (·.1)=false:=by rfl) :
  PE X (.Call (.Attribute o name apos) (e::es) [] cpos) (zX r to t):=by
 intro pins s σ H Q I h
 refine wpAny_Call_method_late hbase hfew hline rfl (thn (ho pins s σ H _ I h) fun v s1 ⟨x,H1,I1,r1,⟨p,ys,ex,hp⟩,q1⟩=>?_)
 subst ex
 cases r1
 obtain⟨_,its,rv,ob,h1,h2,_,h4⟩:=(show ObjOk X.prog X.w H1 s1.heap p (.tup ys) from I1.hok p _ hp)
 refine⟨"tuple",id,F.plainAttrs_tuple,slot,hty,⟨ob,h1,h2⟩,fun a z=>?_,?_⟩
 ·cases z
  exact⟨ob,h1,h4⟩
 have hA:=ha cpos pins s1 σ H1 _ I1 q1
 rw[hs] at hA ⊢
 refine Calls.callWith_builtin (by show (false || (backTo cpos (starEach es X.env)).any (·.1))=false;rw[hplain] <;> rfl) (Calls.evalArgs_plain ?_)
 exact thn hA fun us s2 ⟨vs,H2,I2,r2,q2⟩=>hm pins s2 σ H2 (.ref p) vs (.ref p) us Q I2 rfl r2 q2
end
end L2
end
section
set_option maxRecDepth 100000
set_option maxHeartbeats 2000000
namespace L2
open PySem PySem.Spec PyProof.Rows TL
section
variable {X:Cx}{e a b:Expr}{rest:List Expr}{pos:Pos}{ta te:TE}{t:Str->TE}
def zW (ta:TE):TE:=fun σ H Q=>ta σ H fun x H1=>∃i:Int,x=.int i/\i.natAbs.log2<1920/\Q (.str (toString i)) H1
theorem yl (ha:PE X e ta):PE X (.FormattedValue e (-1) none pos) (zW ta):=by
 intro pins s σ H Q I h
 refine FormattedValue_plain (thn (ha pins s σ H _ I h) fun v s1 ⟨x,H1,I1,r1,i,ex,hi,q⟩=>?_)
 subst ex
 obtain⟨t,rfl⟩:=(show ∃t,v=Value.int i t from r1)
 exact formatField_int_small hi ⟨.str (toString i),H1,I1.tok _,⟨_,rfl⟩,q⟩
def PJ (X:Cx) (es:List Expr) (t:Str->TE):Prop:=∀(out:Str) (pins:List (Addr×Obj)) (s:Shared) (σ:St) (H:Hp) (Q:VK),Inv X pins σ H s->t out σ H Q->wpAny (model X.prog X.w) X.A (joinParts out (evalEach es X.env)) (EP X pins σ Q) X.xe s
def tJn:Str->TE:=fun out σ H Q=>out.length<=sizeLine/\Q (.str out) H
def tJc (te:TE) (t:Str->TE):Str->TE:=fun out σ H Q=>te σ H fun x H1=>∃y:Str,x=.str y/\(out++y).length<=sizeLine/\t (out++y) σ H1 Q
theorem yg:PJ X [] tJn:=by
 intro out pins s σ H Q I ⟨h1,h2⟩
 exact joinParts_nil ⟨.str out,H,I.tok _,⟨_,rfl⟩,h2⟩ h1
theorem qL (he:PE X e te) (hr:PJ X rest t):PJ X (e::rest) (tJc te t):=by
 intro out pins s σ H Q I h
 refine joinParts_cons (thn (he pins s σ H _ I h) fun v s1 ⟨x,H1,I1,r1,y,ex,hl,q⟩=>?_)
 subst ex
 obtain⟨t,rfl⟩:=(show ∃t,v=Value.str y t from r1)
 exact⟨hl,hr _ pins s1 σ H1 Q I1 q⟩
theorem sr (hj:PJ X (a::b::rest) t):PE X (.JoinedStr (a::b::rest) pos) (t Str.empty):=by
 intro pins s σ H Q I h
 exact JoinedStr_many (hj _ pins s σ H Q I h)
end
end L2
end
section
set_option maxRecDepth 100000
set_option maxHeartbeats 2000000
namespace L2
open PySem PySem.Spec PyProof.Rows
theorem wT {K:W.Frag}{h:Heap}{N:Addr}{mg:Str->Option Value}{n:Str}{v:Value} (X:K.In h) (G:h.Ns N mg) (e:W.nsIn K N n=some (some v)):mg n=some v:=by
 obtain⟨ob,es,ep,ho,hd,_,hf⟩:=G
 unfold W.nsIn at e
 split at e
 ·rename_i c d es' n' sl q
  have z:=X _ _ q
  rw[ho] at z
  cases z
  cases hd
  split at e
  ·rename_i en he
   cases e
   rw[← hf]
   unfold nsFind findBy
   rw[← Array.find?_toList,he]
   rfl
  ·split at e <;> cases e
 ·cases e
def ld (K:W.Frag) (C fI:Addr) (f:Str):Bool:=match K.lookup C with
 | some ⟨.type "type",_,.cls cd,sl⟩=>(match cd.mro,sl.toList with
  | .ref D::bm,[_,_,_,_,some (.builtin n),_]=>(D==C&&n == "Exception.__new__" && !cd.hasDel&&cd.hasDict&&bm==lR&&W.nsOkIn K cd.ns) &&
    (W.nsIn K cd.ns "__init__" == some (some (.ref fI))&&W.nsIn K cd.ns f==some none&&W.nsIn K cd.ns "__setattr__" == some none&&W.nsIn K cd.ns "__getattribute__" == some none&&W.nsIn K cd.ns "__getattr__" == some none) &&
    (match K.lookup fI with
     | some ⟨.type "function",_,_,_⟩=>true
     | _=>false)
  | _,_=>false)
 | _=>false
structure ClsI (h:Heap) (C fI:Addr) (f:Str) (N:Addr) (nm qn:Str) (bs:List Value) (sn:List Str) (sub:List Value) (ab:Bool) (col:Option Bool) (dd:Option Addr) (k0 k1 k2 k3 k5:Option Value) (mN:Str->Option Value) (oI:Obj):Prop where
 obj:h.get? C=some (excClassObj nm qn C N bs lR true sn sub ab col dd k0 k1 k2 k3 k5 "Exception.__new__")
 ns:h.Ns N mN
 init:mN "__init__" = some (.ref fI)
 fn:h.get? fI=some oI
 fc:oI.cls=.type "function"
 nf:mN f=none
 nsa:mN "__setattr__" = none
 nga:mN "__getattribute__" = none
 ngt:mN "__getattr__" = none
theorem g7 {K:W.Frag}{h:Heap}{C fI:Addr}{f:Str} (X:K.In h) (q:ld K C fI f=true) :
  ∃N nm qn bs sn sub ab col dd k0 k1 k2 k3 k5 mN oI,ClsI h C fI f N nm qn bs sn sub ab col dd k0 k1 k2 k3 k5 mN oI:=by
 unfold ld at q
 split at q
 ·rename_i dd cd sl ho
  split at q
  ·rename_i D bm k0 k1 k2 k3 n k5 hm hs
   simp only[Bool.and_eq_true,beq_iff_eq,Bool.not_eq_true'] at q
   obtain⟨⟨⟨⟨⟨⟨⟨rfl,rfl⟩,hdel⟩,hdi⟩,rfl⟩,hok⟩,⟨⟨⟨hi,n1⟩,n2⟩,n3⟩,n4⟩,hfn⟩:=q
   obtain⟨nm,bs,mro,ns,qn,hd,sn,sub,ab,col,del⟩:=cd
   dsimp only at hm hdel hok hdi hi n1 n2 n3 n4
   subst hm hdel hdi
   have hsl:sl=#[k0,k1,k2,k3,some (.builtin "Exception.__new__"),k5]:=by
    obtain⟨l⟩:=sl
    simp only at hs
    rw[hs]
   subst hsl
   split at hfn
   ·rename_i d1 d2 d3 hf
    exact⟨ns,nm,qn,bs,sn,sub,ab,col,dd,k0,k1,k2,k3,k5,_,_,X _ _ ho,.of_isNs (W.isNs_of_in X hok),wT X (.of_isNs (W.isNs_of_in X hok)) hi,X _ _ hf,rfl,W.nsMap_none_of_in X hok n1,W.nsMap_none_of_in X hok n2,W.nsMap_none_of_in X hok n3,W.nsMap_none_of_in X hok n4⟩
   ·cases hfn
  ·cases q
 ·cases q
def xo (C a:Addr) (dx:Option Addr) (vs:Array Value):HO:=.ext fun h=>∃o,h.get? a=some o/\o.cls=.ref C/\o.dict=dx/\o.data=.fields vs
section
variable {P:Program}{w:World}{H H1:Hp}{h h1:Heap}{C a:Addr}{dx:Option Addr}{vs:Array Value}{o:Obj}{u:HO}{fs ex:List Addr}
theorem tZ (e:h.get? a=some o) (c:o.cls=.ref C) (d:o.dict=dx) (f:o.data=.fields vs):ObjOk P w H h a (xo C a dx vs) :=
 ⟨⟨o,e,c,d,f⟩,⟨o,e⟩,fun _ _ ⟨o,e,c,d,f⟩ k=>⟨o,k o e,c,d,f⟩⟩
theorem mo (hok:HOk P w H h) (e:H a=some (xo C a dx vs)):∃o,h.get? a=some o/\o.cls=.ref C/\o.dict=dx/\o.data=.fields vs:=(show ObjOk P w H h a (xo C a dx vs) from hok a _ e).1
theorem Un.more (k:Un fs ex H H1 h h1) (hn:H a=none) (hp:h.get? a=none):Un fs ex H (upd H1 a u) h h1 where
 keep:=k.keep
 slot:=k.slot
 free:=fun b ob q n hx=>by
  rw[ai (fun z=>by rw[z,hp] at q;cases q)]
  exact k.free b ob q n hx
 there:=k.there
 tups:=fun b xs q=>by rw[ai (af q hn)];exact k.tups b xs q
 frzs:=fun b ob xs q=>by rw[ai (af q hn)];exact k.frzs b ob xs q
 tbls:=fun b ps q=>by rw[ai (af q hn)];exact k.tbls b ps q
theorem HOk.more (x:HOk P w H h) (hn:H a=none) (new:ObjOk P w (upd H a u) h a u):HOk P w (upd H a u) h:=fun b v e=>by
 by_cases hb:b=a
 ·subst hb;rw[ac] at e;cases e;exact new
 ·rw[ai hb] at e
  exact (x b v e).stay (fun c v _ q=>q) (fun c q=>by rw[ai (af q hn)];exact q) fun c xs q=>by rw[ai (af q hn)];exact q
end
section
open Builtin Builtin.ObjectAttr
variable {prog:Program}{w:World}{A:Around}{E:Value->Shared->Prop}{h:Heap}{g:Array GenState}{d:Drawn}{t:Nat}{os:OsState}
variable {nm q:Str}{C N x:Addr}{bs bm:List Value}{sn:List Str}{sub:List Value}{ab:Bool}{col:Option Bool}{dd:Option Addr}{k0 k1 k2 k3 k5:Option Value}{B newId sa owner:String}{mN:Str->Option Value}{name:Str}{v:Value}{o:Obj}{vs:Array Value}
def Put (h:Heap) (x:Addr) (o:Obj) (name:Str) (v:Value) (h':Heap):Prop :=
 h'.get? x=some {o with dict:=some h.objs.size}/\h'.Ns1 h.objs.size (fun y=>if y=name then some v else none)/\∀b u,b≠x->h.get? b=some u->h'.get? b=some u
theorem sh {tk:Tok}{Q:Fin->Shared->Prop} (SF:StoreFacts B bm sa owner) (hC:h.get? C=some (excClassObj nm q C N bs bm true sn sub ab col dd k0 k1 k2 k3 k5 newId)) (hn:h.Ns N mN) (hna:mN name=none)
  (hB:typeLookup (.type B) name=pure none) (hx:h.get? x=some o) (hc:o.cls=.ref C) (hdn:o.dict=none) (hf:o.data=.fields vs)
  (hq:∀h' tk',Put h x o name v h'->Q (.done (.ret .none)) ⟨h',g,d,tk',os⟩) :
  wpAny (model prog w) A (Builtin.«object.__setattr__» ⟨[.ref x,.str name tk,v],[]⟩) Q E ⟨h,g,d,t,os⟩:=by
 have hpass:=SF.passes (.ref x)
 unfold Builtin.«object.__setattr__»
 repeat (first | rw[refuse_eq] | (rw[refuseLoop_ref,hpass]) | (with_reducible refine wpAny_loadPart_at hx ?_;rw[hc]) | with_reducible refine wpAny_mroOf_exc hC ?_ | (with_reducible refine wpAny_typeLookup_exc hC hn SF.mro hB ?_;rw[hna]) | wp_step)
 rw[hdn,if_neg (by simp[typeHasDict])]
 split
 ·rename_i hcd
  cases hcd
 split
 ·rename_i c0 hcd
  rw[hf] at hcd
  cases hcd
 ·have y1:(h.push {cls:=.type "dict",data:=.dict #[]}).get? x=some o:=Heap.get?_push_of_some _ hx
  have y2:x≠h.objs.size:=Nat.ne_of_lt (Heap.lt_size hx)
  refine wpAny_bind (wpAny_alloc' (wpAny_bind (wpAny_update' y1 (wpAny_pure ?_))))
  have y3:((h.push {cls:=.type "dict",data:=.dict #[]}).update x fun o=>{cls:=o.cls,dict:=some h.objs.size,data:=o.data,slots:=o.slots}).Ns h.objs.size (fun _=>none) :=
   ⟨_,#[],_,(Heap.get?_update_ne _ _ _ _ y2.symm).trans (Heap.get?_push_at rfl rfl),rfl,fun e he=>absurd he (by simp),fun _=>rfl⟩
  show wpAny _ _ (storeInDict h.objs.size (.str name tk) name v) _ _ _
  unfold storeInDict newKeyGuard
  refine wpAny_bind (wpAny_pure (wpAny_bind (wpAny_nsSet1 (Heap.Ns1.of_empty y3) fun h' hn' hs=>?_)))
  obtain⟨oD,esD,epD,z1,z2,z3⟩:=hn'.count (Within.cons name v Within.nil)
  refine wpAny_bind (wpAny_lookBehind z1 (by rw[z2];exact pastItsLine_dict (Nat.le_trans z3 (by rw[List.length_cons,List.length_nil,sizeLine_eq];omega))) ?_)
  wp_walk
  refine hq h' _ ⟨?_,hn',fun b u hbx hb=>?_⟩
  ·refine (hs.2 x y2).trans (Heap.get?_update_self _ y1 ?_)
   have hfr:=(Heap.get?_some_iff.mp hx).2
   obtain⟨oc,od,odt,osl⟩:=o
   cases odt <;> first | rfl | exact hfr
  ·exact (hs.2 b (Nat.ne_of_lt (Heap.lt_size hb))).trans ((Heap.get?_update_ne _ _ _ _ hbx).trans (Heap.get?_push_of_some _ hb))
theorem uG {tk:Tok}{R:Result->Shared->Prop} (SF:StoreFacts B bm sa owner) (hC:h.get? C=some (excClassObj nm q C N bs bm true sn sub ab col dd k0 k1 k2 k3 k5 newId)) (hn:h.Ns N mN) (hna:mN name=none)
  (hB:typeLookup (.type B) name=pure none) (hx:h.get? x=some o) (hc:o.cls=.ref C) (hdn:o.dict=none) (hf:o.data=.fields vs)
  (hq:∀h' tk',Put h x o name v h'->R (.ok (.ret .none)) ⟨h',g,d,tk',os⟩) :
  codeAny (model prog w) A (.call (.builtin sa) ⟨[.ref x,.str name tk,v],[]⟩) R ⟨h,g,d,t,os⟩ :=
 codeAny_call_builtin SF.slot.plain SF.entry (wpAny_check_sa SF hC hx hc (sh SF hC hn hna hB hx hc hdn hf hq))
theorem uH {Q:Unit->Shared->Prop} (SF:StoreFacts B bm sa owner) (hC:h.get? C=some (excClassObj nm q C N bs bm true sn sub ab col dd k0 k1 k2 k3 k5 newId)) (hn:h.Ns N mN) (hna:mN name=none) (hns:mN "__setattr__" = none)
  (hB:typeLookup (.type B) name=pure none) (hx:h.get? x=some o) (hc:o.cls=.ref C) (hdn:o.dict=none) (hf:o.data=.fields vs)
  (hq:∀h' tk',Put h x o name v h'->Q () ⟨h',g,d,tk',os⟩) :
  wpAny (model prog w) A (setAttr (.ref x) name v) Q E ⟨h,g,d,t,os⟩:=by
 have f3:=SF.slot.bind (.ref x)
 unfold setAttr callSpecial? specialOf
 repeat (any_goals (first | assumption | (with_reducible refine wpAny_loadPart_at hx ?_;rw[hc]) | (with_reducible refine wpAny_typeLookup_exc hC hn SF.mro SF.slot.lookup ?_;rw[hns]) | wp_step))
 refine uG SF hC hn hna hB hx hc hdn hf fun h' tk' a1=>?_
 repeat (any_goals (first | assumption | wp_step))
 exact hq h' tk' a1
end
section
open Builtin Builtin.ObjectAttr
variable {prog:Program}{w:World}{A:Around}{E:Value->Shared->Prop}{h:Heap}{g:Array GenState}{d:Drawn}{t:Nat}{os:OsState}
variable {nm q:Str}{C N x dx:Addr}{bs bm:List Value}{sn:List Str}{sub:List Value}{ab:Bool}{col:Option Bool}{dd:Option Addr}{k0 k1 k2 k3 k5:Option Value}{B newId:String}{mN mA:Str->Option Value}{name:Str}{v:Value}{o:Obj}{vs:Array Value}
theorem tE {tk:Tok}{Q:Fin->Shared->Prop} (FB:ExcAttrBase B bm) (hC:h.get? C=some (excClassObj nm q C N bs bm true sn sub ab col dd k0 k1 k2 k3 k5 newId)) (hn:h.Ns N mN) (hna:mN name=none)
  (hB:typeLookup (.type B) name=pure none) (hx:h.get? x=some o) (hc:o.cls=.ref C) (hdx:o.dict=some dx) (hf:o.data=.fields vs) (hd:h.Ns1 dx mA) (hv:mA name=some v) (hq:Q (.done (.ret v)) ⟨h,g,d,t,os⟩) :
  wpAny (model prog w) A (Builtin.«object.__getattribute__» ⟨[.ref x,.str name tk],[]⟩) Q E ⟨h,g,d,t,os⟩:=by
 unfold Builtin.«object.__getattribute__»
 repeat (first | (with_reducible refine wpAny_loadPart_at hx ?_;rw[hc]) | (with_reducible refine wpAny_typeLookup_exc hC hn FB.mro hB ?_;rw[hna]) | wp_step)
 split
 ·rename_i c0 hcd
  rw[hf] at hcd
  cases hcd
 unfold instanceDict
 repeat (first | (with_reducible refine wpAny_loadPart_at hx ?_;rw[hc]) | with_reducible refine wpAny_loadPart_at hC ?_ | wp_step)
 rw[hdx]
 repeat (first | (with_reducible refine wpAny_nsGet hd.ns ?_;rw[hv]) | wp_step)
 exact hq
theorem tF {M:Model}{nameV:Value}{Q:Unit->Shared->Prop} (FB:ExcAttrBase B bm) (hC:h.get? C=some (excClassObj nm q C N bs bm true sn sub ab col dd k0 k1 k2 k3 k5 newId))
  (hx:h.get? x=some o) (hc:o.cls=.ref C) (hq:Q () ⟨h,g,d,t,os⟩):wpAny M A (checkBuiltinCall "BaseException.__getattribute__" ⟨[.ref x,nameV],[]⟩) Q E ⟨h,g,d,t,os⟩:=by
 have y1:builtinKind "BaseException.__getattribute__" = some .slot:=by decide +kernel
 have y2:splitId "BaseException.__getattribute__" = some ("BaseException","__getattribute__"):=by decide +kernel
 have y3:(Value.ref C::bm).contains (.type "BaseException")=true:=by rw[List.contains_cons,FB.hasBase,Bool.or_true]
 have ha:=F.args_bexc_ga (.ref x) nameV
 simp only[checkBuiltinCall,y1,y2]
 refine wpAny_bind ?_
 ·unfold isInstance
  repeat (first | (with_reducible refine wpAny_loadPart_at hx ?_;rw[hc]) | (with_reducible refine wpAny_isSubtype_exc hC ?_;rw[y3]) | wp_step)
  exact hq
theorem vF {tk:Tok}{R:Result->Shared->Prop} (FB:ExcAttrBase B bm) (hC:h.get? C=some (excClassObj nm q C N bs bm true sn sub ab col dd k0 k1 k2 k3 k5 newId)) (hn:h.Ns N mN) (hna:mN name=none)
  (hB:typeLookup (.type B) name=pure none) (hx:h.get? x=some o) (hc:o.cls=.ref C) (hdx:o.dict=some dx) (hf:o.data=.fields vs) (hd:h.Ns1 dx mA) (hv:mA name=some v) (hq:R (.ok (.ret v)) ⟨h,g,d,t,os⟩) :
  codeAny (model prog w) A (.call (.builtin "BaseException.__getattribute__") ⟨[.ref x,.str name tk],[]⟩) R ⟨h,g,d,t,os⟩ :=
 codeAny_call_builtin FB.ga.plain F.entry_bexc_ga (tF FB hC hx hc (tE FB hC hn hna hB hx hc hdx hf hd hv hq))
theorem yL {tk:Tok}{fill expr:Bool}{Q:Value->Shared->Prop} (FB:ExcAttrBase B bm) (hC:h.get? C=some (excClassObj nm q C N bs bm true sn sub ab col dd k0 k1 k2 k3 k5 newId)) (hn:h.Ns N mN) (hna:mN name=none)
  (hng:mN "__getattribute__" = none) (hnt:mN "__getattr__" = none)
  (hB:typeLookup (.type B) name=pure none) (hx:h.get? x=some o) (hc:o.cls=.ref C) (hdx:o.dict=some dx) (hf:o.data=.fields vs) (hd:h.Ns1 dx mA) (hv:mA name=some v) (hh:handedOut v=pure v) (hq:Q v ⟨h,g,d,t,os⟩) :
  wpAny (model prog w) A (getAttrBy (.ref x) (.str name tk) fill expr) Q E ⟨h,g,d,t,os⟩:=by
 have f3:=FB.ga.bind (.ref x)
 have y0:(expr&&onTheHeap (Value.builtin "BaseException.__getattribute__"))=false:=by cases expr <;> rfl
 have y2:(Value.builtin "BaseException.__getattribute__" == Value.builtin "object.__getattribute__")=false:=by decide +kernel
 have y1:(onTheHeap (Value.ref C)&&Value.builtin "BaseException.__getattribute__" == Value.builtin "object.__getattribute__")=false:=by rw[y2];rfl
 repeat (any_goals (first | assumption | (with_reducible refine wpAny_loadPart_at hx ?_;rw[hc]) | (with_reducible refine wpAny_typeLookup_exc hC hn FB.mro FB.ga.lookup ?_;rw[hng]) | (with_reducible refine wpAny_typeLookup_exc hC hn FB.mro FB.noGetattr ?_;rw[hnt]) | wp_step))
 refine vF FB hC hn hna hB hx hc hdx hf hd hv ?_
 repeat (any_goals (first | assumption | wp_step))
theorem vG {expr:Bool}{Q:Value->Shared->Prop} (FB:ExcAttrBase B bm) (hC:h.get? C=some (excClassObj nm q C N bs bm true sn sub ab col dd k0 k1 k2 k3 k5 newId)) (hn:h.Ns N mN) (hna:mN name=none)
  (hng:mN "__getattribute__" = none) (hnt:mN "__getattr__" = none)
  (hB:typeLookup (.type B) name=pure none) (hx:h.get? x=some o) (hc:o.cls=.ref C) (hdx:o.dict=some dx) (hf:o.data=.fields vs) (hd:h.Ns1 dx mA) (hv:mA name=some v) (hh:handedOut v=pure v) (hq:Q v ⟨h,g,d,t+1,os⟩) :
  wpAny (model prog w) A (getAttr (.ref x) name expr) Q E ⟨h,g,d,t,os⟩:=by
 unfold getAttr
 repeat (any_goals (first | assumption | with_reducible apply yL FB hC hn hna hng hnt hB hx hc hdx hf hd hv hh | wp_step))
end
section
variable {X:Cx}{pins:List (Addr×Obj)}{σ:St}{H:Hp}{s:Shared}{a C fI dx:Addr}{vs:Array Value}{fs:List (Str×V)}{f:Str}{v:V}{A:Around}{E:Value->Shared->Prop}
theorem nE {y:V}{u:Value}{Q:Unit->Shared->Prop} (I:Inv X pins σ H s) (e:H a=some (xo C a none vs)) (c:ld X.K C fI f=true) (hB:typeLookup (.type "Exception") f=pure none) (ry:RelV y u)
  (h:∀dx s',H dx=none->dx≠a->Inv X pins σ (upd (upd H a (xo C a (some dx) vs)) dx (.xd [(f,y)])) s'->Q () s'):wpAny (model X.prog X.w) A (setAttr (.ref a) f u) Q E s:=by
 obtain⟨N,nm,qn,bs,sn,sub,ab,col,dd,k0,k1,k2,k3,k5,mN,oI,L⟩:=g7 I.kIn c
 obtain⟨o,e1,e2,e3,e4⟩:=mo I.hok e
 obtain⟨hp,g,d,t,os⟩:=s
 refine uH F.store_Exception L.obj L.ns L.nf L.nsa hB e1 e2 e3 e4 fun h' tk' p=>?_
 have hn:H hp.objs.size=none:=I.hok.fresh (Nat.le_refl _)
 have ne:hp.objs.size≠a:=Ne.symm (af e hn)
 have mu:Mut (H a):=by rw[e];exact True.intro
 have ok1:HOk X.prog X.w (upd H a (xo C a (some hp.objs.size) vs)) h':=I.hok.write mu (.inl rfl) p.2.2 ⟨_,p.1⟩ (tZ p.1 e2 rfl e4)
 have un1:Un X.fs [] H (upd H a (xo C a (some hp.objs.size) vs)) hp h':=Un.write mu (.inl rfl) p.2.2 ⟨_,p.1⟩
 refine h hp.objs.size ⟨h',g,d,tk',os⟩ hn ne (I.un (t':=tk') (un1.more hn (Heap.get?_none_of_le (Nat.le_refl _))) (ok1.more (by rw[ai ne];exact hn) ⟨_,p.2.1,fun z=>?_⟩))
 show RelO ([(f,y)].lookup z) (if z=f then some u else none)
 by_cases q:z=f
 ·subst q
  simp only[List.lookup,beq_self_eq_true,if_true]
  exact ry
 ·rw[if_neg q]
  simp only[List.lookup,beq_eq_false_iff_ne.mpr q]
  exact True.intro
theorem oA {b:Bool}{Q:Value->Shared->Prop} (I:Inv X pins σ H s) (e:H a=some (xo C a (some dx) vs)) (ed:H dx=some (.xd fs)) (c:ld X.K C fI f=true) (hB:typeLookup (.type "Exception") f=pure none) (l:fs.lookup f=some v)
  (h:∀u s',Inv X pins σ H s'->RelV v u->Q u s'):wpAny (model X.prog X.w) A (getAttr (.ref a) f b) Q E s:=by
 obtain⟨N,nm,qn,bs,sn,sub,ab,col,dd,k0,k1,k2,k3,k5,mN,oI,L⟩:=g7 I.kIn c
 obtain⟨o,e1,e2,e3,e4⟩:=mo I.hok e
 obtain⟨mA,hd,r⟩:=(show ObjOk X.prog X.w H s.heap dx (.xd fs) from I.hok dx _ ed)
 obtain⟨u,hu,ru⟩:=RelO.some_of (v:=v) (o:=mA f) (by rw[← l];exact r f)
 obtain⟨hp,g,d,t,os⟩:=s
 exact vG F.attrBase_Exception L.obj L.ns L.nf L.nga L.ngt hB e1 e2 e3 e4 hd hu (W.handedOut_of (lQ ru)) (h u _ (I.tok _) ru)
def zd (C:Addr) (f:Str) (ta tv:TE):TS:=fun D σ H=>tv σ H fun y H1=>ta σ H1 fun x H2=>∃a vs,x=.ref a/\H2 a=some (xo C a none vs) /\
 ∀dx,H2 dx=none->dx≠a->D.nx σ (upd (upd H2 a (xo C a (some dx) vs)) dx (.xd [(f,y)]))
def yZ (C:Addr) (f:Str) (ta:TE):TE:=fun σ H Q=>ta σ H fun x H1=>∃a dx vs fs v,x=.ref a/\H1 a=some (xo C a (some dx) vs)/\H1 dx=some (.xd fs)/\fs.lookup f=some v/\Q v H1
variable {o e value:Expr}{pos pos':Pos}{ta tv:TE}
theorem wx (c:ld X.K C fI f=true) (hB:typeLookup (.type "Exception") f=pure none) (ha:PE X o ta) (hv:PE X value tv) (hs:swapsWith value (some (.Attribute o f pos')) pos.line X.env=pure false) :
  PS X (.Assign [.Attribute o f pos'] value pos) (zd C f ta tv):=by
 intro pins s σ H D I h
 refine plainObj_wpAny_Assign_Attribute (thn (hv pins s σ H _ I h) fun u s1 ⟨y,H1,I1,ry,q⟩=>thn (ha pins s1 σ H1 _ I1 q) fun ov s2 ⟨x,H2,I2,rx,a,vs,ex,ea,q2⟩=>?_) hs
 subst ex
 obtain rfl:ov=Value.ref a:=rx
 exact nE I2 ea c hB ry fun dx s3 n1 n2 I3=>⟨σ,_,I3,q2 dx n1 n2⟩
theorem wA (c:ld X.K C fI f=true) (hB:typeLookup (.type "Exception") f=pure none) (he:PE X e ta) (hb:attributeBase e f X.env (eval e X.env)=eval e X.env):PE X (.Attribute e f pos) (yZ C f ta):=by
 intro pins s σ H Q I h
 refine rE hb (thn (he pins s σ H _ I h) fun u s1 ⟨x,H1,I1,rx,a,dx,vs,fs,v,ex,ea,ed,l,q⟩=>?_)
 subst ex
 obtain rfl:u=Value.ref a:=rx
 exact oA I1 ea ed c hB l fun u' s2 I2 ru=>⟨v,H1,I2,ru,q⟩
end
def dJ (h:Heap) (e dx:Addr):Prop:=∃o,h.get? e=some o/\o.dict=some dx
theorem ku (o:Obj) (k:Array Value->Array Value):(o.mapFields k).dict=o.dict:=by
 obtain⟨c,d,dt,sl⟩:=o
 cases dt <;> rfl
section
variable {M:Model}{A:Around}{E:Value->Shared->Prop}{s:Shared}{B:Heap}{env:Env}{outer:List Env}{L e dx:Addr}{cls a0:Value}{Q:Unit->Shared->Prop}{oe:Obj}{vs:Array Value}
theorem vM {head:Value}{hadNext:Bool} (hfr:A.frames=some (env::outer)) (hl:s.heap.FunFrames B (env::outer)) (hf:env.frame=some L) (he:s.heap.get? e=some oe) (hkb:B.StaysIn s.heap) (hen:B.get? e=none)
  (hd:oe.data=.fields vs) (hsz:1<vs.size) (h0:vs[0]?=some a0) (hdx:oe.dict=some dx)
  (h:∀h',Heap.NotedW B (env::outer) e oe.cls a0 (rawInt L) s.heap h'->dJ h' e dx->Q () {s with heap:=h'}) :
  wpAny M A (do let a ← frameOf env;let pl ← entryPlaceOf L hadNext;let b ← EntryCells.newEntry head a .none (rawInt L) .none pl;setField (.ref e) 1 b) Q E s:=by
 have ene:e∉(env::outer).filterMap (·.frame):=fun hm=>by
  obtain⟨_,o,ho,hnf⟩:=hl.mem hm
  rw[he] at ho;cases ho;exact hnf vs hd
 refine wpAny_bind (wpAny_frameOf_fun hfr hl hf fun g1 sl1=>wpAny_bind (wpAny_entryPlaceOf fun pl hpl=>?_))
 unfold EntryCells.newEntry newFields
 refine wpAny_bind (wpAny_newObj_type ?_ (hpl.sizeOk5 _ _ _ _ _))
 have e1:g1.get? e=some oe:=(sl1.2.1 e ene).trans he
 have kb1:B.StaysIn g1:=fun b o hbo=>(sl1.2.1 b fun hm=>by rw[(hl.mem hm).1] at hbo;cases hbo).trans (hkb b o hbo)
 have d3:([head,.ref L,.none,rawInt L,.none]++(if pl.isEmpty then List.replicate 6 Value.none else pl)).toArray[3]?=some (rawInt L):=by simp
 generalize ([head,.ref L,.none,rawInt L,.none]++(if pl.isEmpty then List.replicate 6 Value.none else pl)).toArray=ts at d3 ⊢
 generalize hoT:({cls:=.type "traceback",dict:=none,data:=.fields ts}:Obj)=oT
 have dT:oT.data=.fields ts:=by rw[← hoT]
 have fT:oT.isFreed=false:=Obj.isFreed_of_fields dT
 have e2:(g1.push oT).get? e=some oe:=Heap.get?_push_of_some _ e1
 refine wpAny_setField e2 hd hsz ?_
 have ne:g1.objs.size≠e:=Nat.ne_of_gt (Heap.lt_size e1)
 have d4:=Obj.data_mapFields hd (·.setIfInBounds 1 (Value.ref g1.objs.size))
 have e3:=Heap.get?_update_self (Obj.mapFields (·.setIfInBounds 1 (Value.ref g1.objs.size))) e2 (Obj.isFreed_of_fields d4)
 have t3:((g1.push oT).update e (Obj.mapFields (·.setIfInBounds 1 (Value.ref g1.objs.size)))).get? g1.objs.size=some oT:=(Heap.get?_update_other _ _ (Ne.symm ne)).trans (Heap.get?_push_size g1 fT)
 have keep:∀b o,b≠e->g1.get? b=some o->((g1.push oT).update e (Obj.mapFields (·.setIfInBounds 1 (Value.ref g1.objs.size)))).get? b=some o:=fun b o q hb=>by
  rw[Heap.get?_update_other _ _ (Ne.symm q)]
  exact Heap.get?_push_of_some _ hb
 have nr:∀b o,s.heap.get? b=some o->(∀vs,o.data≠.fields vs)->b≠e:=fun b o hb hnf q=>by
  rw[q,he] at hb;cases hb;exact hnf vs hd
 refine h _ ⟨fun b o hbo=>keep b o (fun q=>by rw[q,hen] at hbo;cases hbo) (kb1 b o hbo),hl.of_keeps fun b o hb hnf=>?_,?_,fun b o hb hnf=>?_⟩ ⟨_,e3,(ku _ _).trans hdx⟩
 ·obtain⟨sl,q⟩:=sl1.2.2 b o hb
  exact⟨_,keep b _ (nr b o hb hnf) q,rfl⟩
 ·exact⟨_,_,g1.objs.size,oT,ts,e3,⟨Obj.cls_mapFields _ _,by rw[Array.getElem?_setIfInBounds_ne (by decide)];exact h0⟩,d4,by simp[hsz],kb1.fresh,ne,t3,dT,d3⟩
 ·obtain⟨sl,q⟩:=sl1.2.2 b o hb
  exact⟨sl,keep b _ (nr b o hb hnf) q⟩
theorem qg (hfr:A.frames=some (env::outer)) (hf:env.frame=some L) (x:Air B (env::outer) e cls a0 s.heap) (y:dJ s.heap e dx)
  (h:∀h',Air B (env::outer) e cls a0 h'->dJ h' e dx->s.heap.UpToSlots h'->Q () {s with heap:=h'}):wpAny M A (noteFrame (.ref e) env) Q E s:=by
 obtain⟨hkb,hen,hl,fl,ht⟩:=x
 by_cases hfl:fl=rawInt L
 ·subst hfl
  exact wpAny_noteFrame_againW hf ht (h s.heap ⟨hkb,hen,hl,_,ht⟩ y (Heap.UpToSlots.refl _))
 ·obtain⟨oe,vs,T,oT,ts,he,⟨hcls,h0⟩,hd,h1,hnT,hTe,hT,hdT,h3⟩:=ht
  obtain⟨o',q1,q2⟩:=y
  rw[he] at q1
  cases q1
  subst hcls
  unfold noteFrame
  simp only[hf]
  refine wpAny_bind (wpAny_field he hd h1 ?_)
  rw[if_pos (show (Value.ref T != Value.none)=true from by simp)]
  refine wpAny_bind (wpAny_field hT hdT h3 ?_)
  rw[if_neg (show ¬((fl==rawInt L)=true) from by simpa using hfl)]
  refine wpAny_bind (wpAny_setField hT hdT (Array.getElem?_eq_some_iff.mp h3).1 ?_)
  have other:∀b,b≠T->(s.heap.update T (Obj.mapFields (·.setIfInBounds 3 Value.none))).get? b=s.heap.get? b:=fun b hb=>Heap.get?_update_other _ _ (Ne.symm hb)
  have nr:∀b o,s.heap.get? b=some o->(∀vs,o.data≠.fields vs)->b≠T:=fun b o hb hnf q=>by
   rw[q,hT] at hb;injection hb with hb;subst hb;exact hnf ts hdT
  refine vM hfr (hl.of_keeps fun b o hb hnf=>⟨o,(other b (nr b o hb hnf)).trans hb,rfl⟩) hf ((other e (Ne.symm hTe)).trans he)
   (fun b o hbo=>(other b fun q=>by rw[q,hnT] at hbo;cases hbo).trans (hkb b o hbo)) hen hd (Array.getElem?_eq_some_iff.mp h1).1 h0 q2
   fun h' ⟨x1,x2,x3,x4⟩ z=>h h' ⟨x1,hen,x2,_,x3⟩ z fun b o hb hnf=>x4 b o ((other b (nr b o hb hnf)).trans hb) hnf
theorem o8 {l:List Env}{f:Option Addr} (x:Air B l e cls a0 s.heap) (y:dJ s.heap e dx) (h:∀h',Heap.TracedAtW h' B e cls a0 (f.elim Value.none fun f=>rawInt f)->Air B l e cls a0 h'->dJ h' e dx->s.heap.UpToSlots h'->Q () {s with heap:=h'}) :
  wpAny M A (setFlight (.ref e) f) Q E s:=by
 obtain⟨hkb,f2,hl,fl,⟨oe,vs,T,oT,ts,he,hcls,hd,h1,hnT,hTe,hT,hdT,h3⟩⟩:=x
 obtain⟨o',q1,q2⟩:=y
 have hsz3:3<ts.size:=(Array.getElem?_eq_some_iff.mp h3).1
 have other:∀b,b≠T->(s.heap.update T (Obj.mapFields (·.setIfInBounds 3 (f.elim Value.none fun f=>rawInt f)))).get? b=s.heap.get? b:=fun b hb=>Heap.get?_update_other _ _ (Ne.symm hb)
 have nr:∀b o,s.heap.get? b=some o->(∀vs,o.data≠.fields vs)->b≠T:=fun b o hb hnf q=>by
  rw[q,hT] at hb;injection hb with hb;subst hb;exact hnf ts hdT
 have tr:Heap.TracedAtW (s.heap.update T (Obj.mapFields (·.setIfInBounds 3 (f.elim Value.none fun f=>rawInt f)))) B e cls a0 (f.elim Value.none fun f=>rawInt f) :=
  ⟨oe,vs,T,_,_,(other e (Ne.symm hTe)).trans he,hcls,hd,h1,hnT,hTe,Heap.get?_update_self _ hT (Obj.isFreed_of_fields (Obj.data_mapFields hdT _)),Obj.data_mapFields hdT _,by simp[hsz3]⟩
 unfold setFlight
 refine wpAny_bind (wpAny_field he hd h1 ?_)
 rw[if_pos (show (Value.ref T != Value.none)=true from by simp)]
 exact wpAny_setField hT hdT hsz3 (h _ tr ⟨fun b o hbo=>(other b fun q=>by rw[q,hnT] at hbo;cases hbo).trans (hkb b o hbo),f2,
  hl.of_keeps fun b o hb hnf=>⟨o,(other b (nr b o hb hnf)).trans hb,rfl⟩,_,tr⟩ ⟨o',(other e (Ne.symm hTe)).trans q1,q2⟩ fun b o hb hnf=>⟨o.slots,(other b (nr b o hb hnf)).trans hb⟩)
theorem gg {l:List Env} (x:Air B l e cls a0 s.heap) (y:dJ s.heap e dx) (h:∀h',Heap.FlyingW B l e cls a0 h'->dJ h' e dx->s.heap.UpToSlots h'->Q () {s with heap:=h'}):wpAny M A (setFlight (.ref e) none) Q E s :=
 o8 x y fun h' t x' y' u=>h h' ⟨x'.1,x'.2.1,x'.2.2.1,t⟩ y' u
theorem qh (hfr:A.frames=some (env::outer)) (hl:s.heap.FunFrames B (env::outer)) (hf:env.frame=some L) (he:s.heap.get? e=some oe) (hkb:B.StaysIn s.heap) (hen:B.get? e=none)
  (hd:oe.data=.fields vs) (h1:vs[1]?=some .none) (h0:vs[0]?=some a0) (hdx:oe.dict=some dx)
  (h:∀h',Air B outer e oe.cls a0 h'->dJ h' e dx->s.heap.UpToSlots h'->Q () {s with heap:=h'}):wpAny M A (leaving env (.ref e)) Q E s:=by
 unfold leaving noteFrame
 simp only[hf]
 refine wpAny_bind (wpAny_bind (wpAny_field he hd h1 ?_))
 rw[if_neg (by decide)]
 refine vM hfr hl hf he hkb hen hd (Array.getElem?_eq_some_iff.mp h1).1 h0 hdx fun h1 ⟨x1,x2,x3,x4⟩ z=>?_
 refine gg (s:={s with heap:=h1}) (l:=env::outer) ⟨x1,hen,x2,_,x3⟩ z fun h2 x5 y2 u2=>?_
 obtain⟨k1,k2,⟨_,_,k3⟩,k4⟩:=x5
 exact h h2 ⟨k1,k2,k3,_,k4.at⟩ y2 (Heap.UpToSlots.trans x4 u2)
end
theorem ObjOk.there {P:Program}{w:World}{H:Hp}{h:Heap}{a:Addr}{o:HO} (x:ObjOk P w H h a o):∃u,h.get? a=some u:=by
 cases o with
 | lst xs=>obtain⟨_,_,_,_,e⟩:=x;exact⟨_,e⟩
 | tup xs=>obtain⟨_,_,_,o,e,_⟩:=x;exact⟨_,e⟩
 | dK kvs=>obtain⟨_,_,_,_,o,_,_,e,_⟩:=x;exact⟨_,e⟩
 | dT kvs=>obtain⟨_,_,_,_,o,_,_,e,_⟩:=x;exact⟨_,e⟩
 | set S n=>obtain⟨o,_,_,_,e,_⟩:=x;exact⟨_,e⟩
 | ins C dx fs=>obtain⟨_,_,_,e,_⟩:=x;exact⟨_,e⟩
 | own y=>exact x
 | xd fs=>obtain⟨_,⟨_,_,_,e,_⟩,_⟩:=x;exact⟨_,e⟩
 | rng lo hi=>obtain⟨_,_,_,e⟩:=x;exact⟨_,e⟩
 | frz ob u=>obtain⟨e,_⟩:=x;exact⟨_,e⟩
 | tbl ps=>exact⟨_,x⟩
 | met f y=>exact⟨_,x⟩
 | ext φ=>obtain⟨_,e,_⟩:=x;exact e
theorem HOk.none_at {P:Program}{w:World}{H:Hp}{h:Heap}{a:Addr} (x:HOk P w H h) (e:h.get? a=none):H a=none:=by
 cases q:H a with
 | none=>rfl
 | some u =>
  obtain⟨v,hv⟩:=(x a u q).there
  rw[e] at hv
  cases hv
def del (H:Hp) (e:Addr):Hp:=fun b=>if b=e then none else H b
theorem kx {H:Hp}{e:Addr}:del H e e=none:=by unfold del;rw[if_pos rfl]
theorem eE {H:Hp}{e b:Addr} (h:b≠e):del H e b=H b:=by unfold del;rw[if_neg h]
abbrev xvs (t:Addr):Array Value:=#[.ref t,.none,.none,.none,.bool false,.none]
def CXD (P:Program) (w:World) (C:Addr):CXT:=fun outer H s E e s'=>∃(ea:Addr) (a0:Value) (H':Hp) (B:Heap) (dx:Addr),e=.ref ea/\Fly P w C outer H s ea a0 H' B s'/\dJ s'.heap ea dx/\H' ea=none/\E (.ref C) (some dx) H'
structure OutsD (C:Addr) (E:XK) (X:Cx):Prop where
 ex:X.ex=[]
 st:X.stack=X.env::X.outer
 fr:X.env.frame=some X.env.locals
 xe:∀e s',wpAny (model X.prog X.w) X.A (leaving X.env e) (fun _ s''=>CXD X.prog X.w C X.outer X.H_0 X.s_0 E e s'') (fun e' s''=>CXD X.prog X.w C X.outer X.H_0 X.s_0 E e' s'') s'->X.xe e s'
section
variable {P:Program}{w:World}{K:W.Frag}{mg:Str->Option Value}{base:Heap}{N:List Str}{qual:Str}{sc:Scope}{f:Addr}{cd:Value}{A:Around}{outer:List Env}{s0:Shared}{H0:Hp}{E:XK}{C:Addr}
theorem nQ:OutsD C E (cxOf (CXD P w C) P w K mg base N qual sc f cd A outer s0 H0 E):=⟨rfl,rfl,rfl,fun _ _ h=>h⟩
theorem xR {X:Cx} (O:OutsD C E X) {pins:List (Addr×Obj)}{σ:St}{H:Hp}{s:Shared}{e dx t:Addr} (I:Inv X pins σ H s) (he:H e=some (xo C e (some dx) (xvs t))) (h0:X.s_0.heap.get? e=none) (q:E (.ref C) (some dx) (del H e)):X.xe (.ref e) s:=by
 have hfr:X.A.frames=some (X.env::X.outer):=by rw[← O.st];exact I.ok.frames
 have hn:∀b:Addr,b∉X.ex:=fun b z=>by rw[O.ex] at z;exact absurd z (by simp)
 have hin:∀env∈(X.env::X.outer),∀b,env.frame=some b->b∈e::frs (X.env::X.outer):=fun env q b hb=>List.mem_cons_of_mem _ (List.mem_filterMap.mpr ⟨env,q,hb⟩)
 have nst:∀b o,X.s_0.heap.get? b=some o->b∉frs X.outer->b∉e::frs (X.env::X.outer):=fun b o q hb hm=>by
  rcases List.mem_cons.mp hm with z | hm
  ·rw[z,h0] at q;cases q
  ·rcases List.mem_cons.mp (I.stkSub b (by rw[O.st];exact hm)) with z | z
   ·exact absurd (Nat.lt_of_lt_of_le (Heap.lt_size q) I.ok.above) (by rw[z];exact Nat.lt_irrefl _)
   ·exact hb z
 have hl:s.heap.FunFrames X.base (X.env::X.outer):=by rw[← O.st];exact I.stack
 obtain⟨o,e1,e2,e3,e4⟩:=mo I.hok he
 have ne:∀b u,H b=some u->(∀φ,u≠.ext φ)->b≠e:=fun b u q1 q2 z=>by
  rw[z,he] at q1
  cases q1
  exact q2 _ rfl
 refine O.xe _ _ (qh (B:=W.hideAll s.heap (e::frs (X.env::X.outer))) hfr (W.funFrames_hide hl hin) O.fr e1 (fun b o q=>W.of_hideAll _ q) (W.hideAll_none _ List.mem_cons_self) e4 (a0:=.ref t) rfl rfl e3 fun h2 x1 y1 x4=>?_)
 rw[e2] at x1
 refine⟨e,.ref t,del H e,_,dx,rfl,⟨x1,I.os,I.bare,fun b o e n hb=>?_,fun b o e n hb=>?_,fun b o e5 n=>?_,fun b o e hb=>?_,fun b xs e5=>?_,fun b o v e5=>?_,fun b ps e5=>?_,?_⟩,y1,kx,q⟩
 ·exact W.hideAll_get _ (I.base.keep b o e n hb (hn b)) (nst b o e hb)
 ·obtain⟨sl,e5⟩:=I.base.slot b o e n hb (hn b)
  obtain⟨_,o2,ho2,hnf⟩:=I.funs.mem (b:=b) hb
  rw[e5] at ho2
  cases ho2
  obtain⟨sl2,e6⟩:=x4 b _ e5 hnf
  exact⟨sl2,e6⟩
 ·have:=I.base.free b o e5 n (hn b)
  rw[eE (fun z=>by rw[z,he] at this;cases this)]
  exact this
 ·obtain⟨o',e5⟩:=I.base.there b o e (hn b)
  exact⟨o',W.hideAll_get _ e5 (nst b o e hb)⟩
 ·have:=I.base.tups b xs e5
  rw[eE (ne b _ this fun _ z=>nomatch z)]
  exact this
 ·have:=I.base.frzs b o v e5
  rw[eE (ne b _ this fun _ z=>nomatch z)]
  exact this
 ·obtain⟨m,this⟩:=I.base.tbls b ps e5
  exact⟨m,by rw[eE (ne b _ this fun _ z=>nomatch z)];exact this⟩
 ·intro a ob q1
  by_cases ha:a=e
  ·rw[ha,kx] at q1;cases q1
  ·rw[eE ha] at q1
   refine (I.hok a ob q1).stay (fun b v hb q2=>W.hideAll_get _ q2 fun hm=>?_) (fun b q2=>by rw[eE (ne b _ q2 fun _ z=>nomatch z)];exact q2) fun b xs q2=>by rw[eE (ne b _ q2 fun _ z=>nomatch z)];exact q2
   rcases List.mem_cons.mp hm with z | hm
   ·rcases hb with y | y
    ·exact ha (y.symm.trans z)
    ·exact ne b _ y (fun _ z=>nomatch z) z
   ·have hz:=I.stkFree b (by rw[O.st];exact hm)
    rcases hb with z | z
    ·rw[z,q1] at hz;cases hz
    ·rw[z] at hz;cases hz
end
section
variable {M:Model}{A:Around}{E:Value->Shared->Prop}{env:Env}{nm q:Str}{C N:Addr}{bs bm:List Value}{hdct:Bool}{sn:List Str}{sub:List Value}{ab:Bool}{col:Option Bool}{dd:Option Addr}{k0 k1 k2 k3 k5:Option Value}{newId:String}
theorem ye {s:Shared}{x:Sem Value}{Q:Flow->Shared->Prop} (hbase:bm.contains (.type "BaseException")=true) (hh:A.handled=none)
  (h:wpAny M A x (fun v s₁=>∃e dx t sl,v=.ref e/\s₁.heap.get? C=some (excClassObj nm q C N bs bm hdct sn sub ab col dd k0 k1 k2 k3 k5 newId)/\s₁.heap.get? e=some ⟨.ref C,dx,.fields (xvs t),sl⟩/\E (.ref e) s₁) E s) :
  wpAny M A (raiseStmt env (some x) none) Q E s:=by
 have y1:(Value.ref C::bm).contains (.type "BaseException")=true:=by rw[List.contains_cons,hbase,Bool.or_true]
 unfold raiseStmt
 refine wpAny_bind (wpAny_mono h (fun v s₁ h₁=>?_) fun _ _ x=>x)
 obtain⟨e,dx,t,sl,rfl,hC,he,hE⟩:=h₁
 obtain⟨hp,g,d,tk,os⟩:=s₁
 repeat (first | with_reducible refine wpAny_loadPart_at he ?_ | with_reducible refine wpAny_loadPart_at hC ?_ | (with_reducible refine wpAny_isSubtype_exc hC ?_;rw[y1]) | wp_step)
 exact wpAny_raiseNew_none hh hE
end
def mz (C:Addr) (f:Str):Sp:=fun vs H Q _=>∃e t v,vs=[.ref e,v]/\H e=some (xo C e none (xvs t))/\∀dx,H dx=none->dx≠e->Q .non (upd (upd H e (xo C e (some dx) (xvs t))) dx (.xd [(f,v)]))
def wj (C:Addr) (f:Str) (E:XK) (t:TA):TS:=fun _ σ H=>t σ H fun vs H1=>∃v,vs=[v]/\∀dx,H1 dx=none->E (.ref C) (some dx) (upd H1 dx (.xd [(f,v)]))
section
variable {X:Cx}{C fI:Addr}{f x:Str}{E:XK}{np cpos pos:Pos}{e:Expr}{es:List Expr}{t:TA}{k:Nat}{fd:FuncData}{ps:List Str}
theorem lA (hc:X.calm=true) (O:OutsD C E X) (hg:Gl X x) (hm:X.mg x=some (.ref C)) (c:ld X.K C fI f=true) (hk:W.keepIn X.K (.ref C)=true) (F:FnOk X.prog X.w X.K X.mg X.base CX0 k fI fd ps (mz C f)) (hr:Room (k+1) X.A) (hb:Binds X.K fd ps [])
  (ha:PA X (e::es) t) (hdb:(x==("__debug__":Str))=false:=by decide) (he:starEach (e::es) X.env=(false,eval e X.env)::starEach es X.env:=by rfl) (hpl:(backTo cpos (starEach es X.env)).any (·.1)=false:=by rfl) :
  PS X (.Raise (some (.Call (.Name x np) (e::es) [] cpos)) none pos) (wj C f E t):=by
 intro pins s σ H D I h
 obtain⟨N,nm,qn,bs,sn,sub,ab,col,dd,k0,k1,k2,k3,k5,mN,oI,L0⟩:=g7 I.mod.kin c
 rw[arm_exec_Raise]
 refine wpAny_bind (wpAny_standAt (ye (C:=C) (nm:=nm) (q:=qn) (N:=N) (bs:=bs) (bm:=lR) (hdct:=true) (sn:=sn) (sub:=sub) (ab:=ab) (col:=col) (dd:=dd) (k0:=k0) (k1:=k1) (k2:=k2) (k3:=k3) (k5:=k5) (newId:="Exception.__new__") PySem.F.excBase_Exception.hasBase (I.ok.hd hc) ?_))
 refine wpAny_bind (wpAny_mono (Q:=fun v s₁=>∃e dx t sl,v=.ref e/\s₁.heap.get? C=some (excClassObj nm qn C N bs lR true sn sub ab col dd k0 k1 k2 k3 k5 "Exception.__new__")/\s₁.heap.get? e=some ⟨.ref C,dx,.fields (xvs t),sl⟩/\X.xe (.ref e) s₁) ?_ (fun v s3 h3=>wpAny_bind (wpAny_standAt (wpAny_pure h3))) fun _ _ y=>y)
 refine wpAny_Call_Name_kw (cU I hg hm ?_ hdb)
 refine W.callWith_K (h₀:=X.base) I.ok.mod.kin hk (thn (ha cpos pins s σ H _ I h) fun us s1 ⟨vs,H1,I1,r,v,ev,q⟩=>⟨I1.kIn,?_⟩) he hpl
 subst ev
 have hlen:us.length=1:=by rw[← r.length];rfl
 obtain⟨hp,g,d,tk,os⟩:=s1
 show wpAny _ _ (call (.ref C) us) _ _ _
 have k1:∀b o,X.base.get? b=some o->hp.get? b=some o:=I1.bk
 refine wpAny_call_exc_init PySem.F.excBase_Exception (k1 _ _ L0.obj) (L0.ns.keeps k1) L0.init (k1 _ _ L0.fn) L0.fc (fun h' ea mk=>?_) (by rw[hlen,sizeLine_eq];omega)
 obtain⟨ta,ht,_,_⟩:=mk.there
 have n1:H1 ea=none:=I1.hok.none_at mk.new
 have I2:Inv X pins σ (upd H1 ea (xo C ea none (xvs ta))) ⟨h',g,d,tk,os⟩:=I1.un (t':=tk) ((Un.kept mk.keeps).more n1 mk.new) ((I1.hok.kept mk.keeps).more n1 (tZ ht rfl rfl rfl))
 have s0:X.s_0.heap.get? ea=none:=by
  cases z:X.s_0.heap.get? ea with
  | none=>rfl
  | some o =>
   obtain⟨o',e'⟩:=I1.base.there ea o z (by rw[O.ex];simp)
   have e':hp.get? ea=some o':=e'
   rw[mk.new] at e'
   cases e'
 have hq:mz C f [.ref ea,v] (upd H1 ea (xo C ea none (xvs ta))) (fun z H2=>z=.non/\∃dx,H2 ea=some (xo C ea (some dx) (xvs ta))/\E (.ref C) (some dx) (del H2 ea)) E0:=by
  refine⟨ea,ta,v,rfl,ac,fun dx d1 d2=>⟨rfl,dx,by rw[ai (Ne.symm d2),ac],?_⟩⟩
  rw[ai d2] at d1
  have:=q dx d1
  have ee:del (upd (upd (upd H1 ea (xo C ea none (xvs ta))) ea (xo C ea (some dx) (xvs ta))) dx (.xd [(f,v)])) ea=upd H1 dx (.xd [(f,v)]):=by
   funext b
   by_cases b1:b=ea
   ·rw[b1,kx,ai (Ne.symm d2),n1]
   ·rw[eE b1]
    by_cases b2:b=dx
    ·rw[b2,ac,ac]
    ·rw[ai b2,ai b1,ai b1,ai b2]
  rw[ee]
  exact this
 have r2:Vals [.ref ea,v] (.ref ea::us):=.cons rfl r
 have hl:(Value.ref ea::us++[]).length=ps.length:=by
  rw[List.append_nil,← r2.length]
  exact F.len _ _ _ _ hq
 have hb2:=hb (⟨h',g,d,tk,os⟩:Shared) (.ref ea::us) I2.kIn hl
 rw[List.append_nil] at hb2
 refine wpAny_call (codeAny_mono (F.run _ X.stack _ _ ⟨Value.ref ea::us,[]⟩ (Value.ref ea::us) _ _ E0 (hr.make C us []) (I2.env0.make C us []) hb2 r2 hq) fun r s' hq'=>?_)
 cases r with
 | error _=>exact False.elim hq'
 | ok fl =>
  cases fl with
  | ret u =>
   obtain⟨z,H',I3,rv,ez,dx,w1,w2⟩:=I2.after hq'
   subst ez
   obtain⟨⟨oc,od,odt,osl⟩,e1,e2,e3,e4⟩:=mo I3.hok w1
   obtain rfl:oc=.ref C:=e2
   obtain rfl:odt=.fields (xvs ta):=e4
   exact⟨rv,ea,od,ta,osl,rfl,I3.bk _ _ L0.obj,e1,xR O I3 w1 s0 w2⟩
  | next=>exact False.elim hq'
  | brk=>exact False.elim hq'
  | cont=>exact False.elim hq'
end
section
variable {P:Program}{w:World}{K:W.Frag}{mg:Str->Option Value}{base:Heap}{C:Addr}
theorem Fun.okD {x qual:Str}{st:Stmt}{f:Addr}{fd:FuncData}{N ps:List Str}{k:Nat}{sp:Sp} (F:Fun K x qual st f fd) (S:FnScope N ps (ad st)) (len:∀vs H Q E,sp vs H Q E->vs.length=ps.length)
  (hbody:∀(cdv:Value) (A:Around) (outer:List Env) (s:Shared) (H:Hp) (vs:List V) (Q:VK) (E:XK),Room k (A.deeper (envOfC qual (ad st) s.heap.objs.size f cdv))->sp vs H Q E ->
   ∃t,PSs (cxOf (CXD P w C) P w K mg base N qual (ad st) f cdv A outer s H E) (au st) t/\t {nx:=fun _ H'=>Q .non H',rt:=Q} (start N vs) H):FnOk P w K mg base (CXD P w C) (k+1) f fd ps sp:=by
 obtain⟨oc,od,kV,doc,pm,an,cdv,ct,osl,rfl,lk,hcd⟩:=F.ex
 exact vI lk hcd S len fun A outer s H vs Q E hr hsp=>hbody cdv A outer s H vs Q E hr hsp
end
abbrev Cx.triedD (X:Cx) (C:Addr) (E:XK) (pins:List (Addr×Obj)):Cx :=
 {X with pn:=X.pn++pins,xe:=fun e s'=>∃(ps:List (Addr×Obj)) (σ:St) (H:Hp) (s:Shared),Inv {X with pn:=X.pn++pins,xe:=fun _ _=>False} ps σ H s/\CXD X.prog X.w C X.stack H s E e s'}
section
variable {X:Cx}{C fI:Addr}{f:Str}{E:XK}{pins ps:List (Addr×Obj)}{σ:St}{H:Hp}{s:Shared}
theorem Inv.triedD (I:Inv X pins σ H s):Inv (X.triedD C E pins) [] σ H s:=⟨⟨I.ok.mod,I.ok.kind,I.ok.glob,I.ok.blt,I.ok.above,I.ok.inj,I.ok.has,I.ok.cab,I.ok.hd,I.ok.frames,I.ok.stk,I.ok.exf,I.ok.bs,I.ok.bsz,I.ok.noex,I.ok.exfs,I.ok.funs,I.ok.frf⟩,I.os,I.bare,I.base,I.loc,I.cell,I.free,I.freeC,fun p hp=>I.pin p (by simpa using hp),I.hok,I.len⟩
theorem nN {pins:List (Addr×Obj)}:Passes (CXD X.prog X.w C) (X.triedD C E pins) E:=by
 intro ps σ H s e s' I h
 exact⟨ps,σ,H,s,⟨⟨I.ok.mod,I.ok.kind,I.ok.glob,I.ok.blt,I.ok.above,I.ok.inj,I.ok.has,I.ok.cab,I.ok.hd,I.ok.frames,I.ok.stk,I.ok.exf,I.ok.bs,I.ok.bsz,I.ok.noex,I.ok.exfs,I.ok.funs,I.ok.frf⟩,I.os,I.bare,I.base,I.loc,I.cell,I.free,I.freeC,I.pin,I.hok,I.len⟩,h⟩
theorem Inv.names {h':Heap}{m':Str->Option Value}{σ':St}{t':Nat} (I:Inv X pins σ H s) (hn:h'.Ns X.env.locals m') (hs:Heap.SameBut X.env.locals s.heap h') (hl:σ'.length=σ.length) (hσ:∀(i:Nat) v,σ'[i]?≠some (some v)) :
  Inv X pins σ' H {s with heap:=h',toks:=t'}:=by
 have old:∀b o,X.s_0.heap.get? b=some o->b≠X.env.locals:=fun b o e=>Nat.ne_of_lt (Nat.lt_of_lt_of_le (Heap.lt_size e) I.ok.above)
 refine⟨I.ok,I.os,I.bare,⟨fun b o e n hb hx=>?_,fun b o e n hb hx=>?_,I.base.free,fun b o e hx=>?_,I.base.tups,I.base.frzs,I.base.tbls⟩,⟨_,hn,fun j y v e1 e2 e3=>absurd e2 (hσ j v)⟩,fun y c e=>?_,I.free,I.freeC,fun p hp=>?_,fun b ob e=>?_,hl.trans I.len⟩
 ·exact (hs.2 b (old b o e)).trans (I.base.keep b o e n hb hx)
 ·obtain⟨sl,e1⟩:=I.base.slot b o e n hb hx
  exact⟨sl,(hs.2 b (old b o e)).trans e1⟩
 ·obtain⟨o',e1⟩:=I.base.there b o e hx
  exact⟨o',(hs.2 b (old b o e)).trans e1⟩
 ·obtain⟨v,z⟩:=I.cell y c e
  exact⟨v,z.sameBut hs (I.cne y c e)⟩
 ·obtain⟨e,n,ne,nf,d⟩:=I.pin p hp
  exact⟨(hs.2 p.1 ne).trans e,n,ne,nf,d⟩
 ·refine (I.hok b ob e).stay (fun c v hc q=>(hs.2 c fun z=>?_).trans q) (fun _ q=>q) fun _ _ q=>q
  have hz:=I.free
  rw[← z] at hz
  rcases hc with y | y
  ·rw[y,e] at hz;cases hz
  ·rw[y] at hz;cases hz
def xS (C:Addr) (i:Nat) (tb:XK->TS) (th:TS):TS:=fun D σ H=>tb (fun _ od H'=>∃dx,od=some dx/\∀ea vs,H' ea=none->th {nx:=fun _ _=>False,bk:=fun _ _=>False,ct:=fun _ _=>False,rt:=D.rt} ((σ.map fun _=>none).set i (some (.ref ea))) (upd H' ea (xo C ea (some dx) vs))) D σ H
theorem uK {x n:Str}{np hpos pos:Pos}{i:Nat}{body suite:List Stmt}{b₀:Stmt}{tb:XK->TS}{th:TS} (hst:X.stack=X.env::X.outer) (hfr:X.env.frame=some X.env.locals) (hex:X.ex=[]) (hg:Gl X x) (hm:X.mg x=some (.ref C)) (c:ld X.K C fI f=true)
  (hN:X.N.Nodup) (hi:X.N[i]?=some n) (hk:X.env.scope.names.lookup n=some .local)
  (hb:∀E pins,PSs (X.triedD C E pins) body (tb E)) (hh:∀e,PSs (X.hush e) (b₀::suite) th) (hdb:(x==("__debug__":Str))=false:=by decide) :
  PS X (.Try body [.ExceptHandler (some (.Name x np)) (some n) (b₀::suite) hpos] [] [] pos) (xS C i tb th):=by
 intro pins s σ H D I h
 refine wpAny_Try_except ?_
 refine wpAny_mono (hb _ pins [] s σ H D I.triedD h) (fun f s1 hf=>?_) fun e s1 hx=>?_
 ·cases f with
  | next =>
   obtain⟨σ',H',I',q⟩:=hf
   exact wpAny_execs_nil ⟨σ',H',Inv.untried I.ok I',q⟩
  | brk =>
   obtain⟨σ',H',I',q⟩:=hf
   exact⟨σ',H',Inv.untried I.ok I',q⟩
  | cont =>
   obtain⟨σ',H',I',q⟩:=hf
   exact⟨σ',H',Inv.untried I.ok I',q⟩
  | ret u =>
   obtain⟨v,σ',H',I',r,q⟩:=hf
   exact⟨v,σ',H',Inv.untried I.ok I',r,q⟩
 ·obtain⟨ps,σ1,H1,s0,I1,ea,a0,H',B,dx,rfl,F,Y,hea,dx',hdx,q⟩:=hx
  obtain rfl:dx=dx':=Option.some.inj hdx
  have none_of:∀(j:Nat) (v:V),(σ.map fun _=>(none:Option V))[j]?≠some (some v):=fun j v e=>by
   rw[List.getElem?_map] at e
   cases hz:σ[j]? with
   | none=>rw[hz] at e;cases e
   | some z=>rw[hz] at e;cases e
  have I2:Inv X pins (σ.map fun _=>none) H1 s0:=(Inv.untried I.ok I1).weak (by rw[List.length_map,I.len];exact I1.len.symm) fun i v e=>absurd e (none_of i v)
  have hA:X.A.frames=some (X.env::X.outer):=by rw[← hst];exact I.ok.frames
  obtain⟨oe0,_,_,_,_,he0,_,hd0,_⟩:=F.air.2.2.2.choose_spec
  have new0:s0.heap.get? ea=none:=by
   cases z:s0.heap.get? ea with
   | none=>rfl
   | some o =>
    by_cases hm:ea∈frs X.stack
    ·obtain⟨_,o2,ho2,hnf⟩:=F.air.2.2.1.mem (b:=ea) hm
     rw[he0] at ho2
     cases ho2
     exact absurd hd0 (hnf _)
    ·obtain⟨o',e'⟩:=F.there ea o z hm
     rw[F.air.2.1] at e'
     cases e'
  refine qg hA hfr (by rw[← hst];exact F.air) Y fun h2 x2 y2 u2=>?_
  refine gg x2 y2 fun h3 x3 y3 u3=>?_
  have x3':Heap.FlyingW B X.stack ea (.ref C) a0 h3:=by rw[hst];exact x3
  have F3:=F.later (Air.of_fly x3') (u2.trans u3)
  have I3:Inv X pins (σ.map fun _=>none) H' {s1 with heap:=h3}:=I2.call' F3.os F3.un F3.held F3.bare fun b z=>absurd z (by simp)
  obtain⟨N,nm,qn,bs,sn,sub,ab,col,dd,k0,k1,k2,k3,k5,mN,oI,L0⟩:=g7 I3.mod.kin c
  obtain⟨ob,hob,hobc⟩:=x3.there
  refine wpAny_handleBy_cons (codeAny_handlers_test (cU (I3.hush (.ref ea)) hg hm ?_ hdb)) (by intro q;cases q)
  refine wpAny_excMatches_sub_self (I3.bk _ _ L0.obj) hob hobc PySem.F.excBase_Exception.hasBase (codeAny_handlers_suite_as ?_)
  refine gg (Air.of_fly x3') y3 fun h4 x4 y4 u4=>?_
  have F4:=F3.later (Air.of_fly x4) u4
  obtain⟨od,d1,d2⟩:=y4
  obtain⟨oe,vs,T,oT,ts,he,⟨hcls,_⟩,hd,_⟩:=x4.2.2.2
  rw[he] at d1
  cases d1
  have I4:Inv X pins (σ.map fun _=>none) (upd H' ea (xo C ea (some dx) vs)) {s1 with heap:=h4} :=
   I2.call' F4.os (F4.un.more (I2.hok.none_at new0) new0) (F4.held.more hea (tZ he hcls d2 hd)) F4.bare fun b z=>absurd z (by simp)
  refine gj (X:=X.hush (.ref ea)) (v:=.ref ea) (I4.hush (.ref ea)) hN hi (.inl hk) rfl (fun s5 I5=>?_) (.inr hk)
  refine wpAny_noRaise (wpAny_mono (hh (.ref ea) pins _ _ _ _ I5 (q ea vs hea)) (fun f s6 hf=>?_) fun _ _ z=>z)
  cases f with
  | next=>exact False.elim (let ⟨_,_,_,q⟩:=hf;q)
  | brk=>exact False.elim (let ⟨_,_,_,q⟩:=hf;q)
  | cont=>exact False.elim (let ⟨_,_,_,q⟩:=hf;q)
  | ret u =>
   obtain⟨v,σ',H6,I6,r,q6⟩:=hf
   have I7:=Inv.unhush I.ok I6
   obtain⟨m,hn,_⟩:=id I7.loc
   refine wpAny_nameGoes hk hn (by rw[I.ok.kind];rfl) fun h' m' hn' hs=>?_
   exact⟨v,(σ.map fun _=>none),H6,I7.names hn' hs (by rw[List.length_map,I.len];exact I7.len.symm) none_of,r,q6⟩
end
end L2
end
section
namespace LM
open LuteTab
def SIGNS:List Nat:=[10,32,38,43,45,46,47,48,49,50,51,52,53,54,55,56,57,65,66,67,68,69,70,71,72,73,74,75,76,77,78,79,80,81,82,83,84,85,86,87,88,89,90,97,98,99,100,101,102,103,104,105,106,107,108,109,110,111,112,113,114,115,116,117,118,119,120,121,122,124]
def clean (n:Nat):Nat:=if n∈SIGNS then n else 63
def FF:List Nat:=[97,98,99,100,101,102,103,104,105,107,108,109,110,111,112,113]
def FB:List (List Nat):=[[97],[47,97],[47,47,97],[47,47,47,97],[52],[53],[54],[55]]
def IF:List Nat:=[48,49,50,51,52,53,54,55,56,57,120,121,122,118,117,119]
def IB:List (List Nat):=[[55],[56],[57],[49,48],[49,49],[49,50],[49,51],[49,52]]
def NUT:List (List Nat):=[[53],[52],[51],[50],[49]]
def GC:List Nat:=[97,98,99,100,101,102,103,104,105,107,108,109,110,111,112,113,114,115,116,118,120,121,122,38,57]
def SIXTH:List (List Nat):=[[43],[65],[66],[67],[68],[69],[70],[71],[72],[73],[75],[76],[77],[78],[79],[80]]
def GB:List (List Nat):=[[45,55],[45,56],[45,57],[45,49,48],[45,49,49],[45,49,50],[45,49,51],[45,49,52]]
def LEN:List (List Nat×Nat):=[([120],1),([116],2),([115],4),([101],8),([113],16),([104],32),([119],64),([116,46],3),([115,46],6),([101,46],12),([113,46],24),([104,46],48),([119,46],96)]
def KINDS:List (List Nat):=[[102,114,101,110,99,104],[105,116,97,108,105,97,110],[103,101,114,109,97,110]]
abbrev St:=Nat×Nat
def spl {α:Type} [DecidableEq α] (d:α):List α->List (List α)
 | []=>[[]]
 | c::r=>if c=d then []::spl d r else match spl d r with
  | []=>[[c]]
  | a::l=>(c::a)::l
def mGrid (frets:List Nat):Nat->List Nat->Option (List St)
 | _,[]=>some []
 | k,c::r=>if c=46 then mGrid frets (k+1) r else match frets.idxOf? c with
  | none=>none
  | some f=>(mGrid frets (k+1) r).map ((k,f)::·)
def mGrid6 (frets s:List Nat):Option (List St):=if s.length=6 then mGrid frets 1 s else none
def mBassList (tab:List (List Nat)):List (List Nat)->Option (List St)
 | []=>some []
 | s::r=>match tab.idxOf? s with
  | none=>none
  | some i=>(mBassList tab r).map ((7+i,0)::·)
def mBasses (tab:List (List Nat)) (text:List Nat):Option (List St):=match spl 32 text with
 | []::l=>mBassList tab l
 | _=>none
def both (a b:Option (List St)):Option (List St):=match a,b with
 | some x,some y=>some (x++y)
 | _,_=>none
def mFrench (text:List Nat):Option (List St):=both (mGrid6 FF (text.take 6)) (mBasses FB (text.drop 6))
def mItalian (text:List Nat):Option (List St):=both (mGrid6 IF (text.take 6).reverse) (mBasses IB (text.drop 6))
def mCross (s:List Nat):Option St:=if s.length<1∨3<s.length∨s≠List.replicate s.length (s.headD 0) then none else match GC.idxOf? (s.headD 0) with
 | none=>none
 | some i=>some (5-i % 5,5 * (s.length-1)+i / 5+1)
def mGermanStop (s:List Nat):Option St:=match NUT.idxOf? s with
 | some i=>some (1+i,0)
 | none=>match SIXTH.idxOf? s with
  | some i=>some (6,i)
  | none=>match GB.idxOf? s with
   | some i=>some (7+i,0)
   | none=>mCross s
def mGermanList:List (List Nat)->Option (List St)
 | []=>some []
 | s::r=>match mGermanStop s with
  | none=>none
  | some x=>(mGermanList r).map (x::·)
def mGerman (text:List Nat):Option (List St):=if text=[46] then some [] else mGermanList (spl 32 text)
def chain:Nat->List St->Bool
 | _,[]=>true
 | n,a::r=>decide (n<a.1)&&chain a.1 r
def rise:List St->Bool
 | []=>true
 | a::r=>chain a.1 r
def risen (o:Option (List St)):Option (List St):=match o with
 | some l=>if rise l=true then some l else none
 | none=>none
def mStops (kind:Nat) (text:List Nat):Option (List St):=risen (if kind=0 then mFrench text else if kind=1 then mItalian text else mGerman text)
def mLength (sign:List Nat) (last:Nat):Option Nat:=if sign=[] then (if last=0 then none else some last) else match LEN.lookup sign with
 | none=>none
 | some n=>if n=last then none else some n
def mMoment (kind:Nat) (row:List Nat) (last:Nat):Option (Nat×List St):=match row.idxOf? 32 with
 | none=>none
 | some b=>match mLength (row.take b) last with
  | none=>none
  | some n=>(mStops kind (row.drop (b+1))).map fun l=>(n,l)
abbrev Ln:=Option (Nat×List St)
def mLines (kind:Nat):Nat->List (List Nat)->Option (List Ln)
 | last,[]=>if last=0 then none else some []
 | last,row::r=>if row=[124] then (mLines kind last r).map (none::·) else match mMoment kind row last with
  | none=>none
  | some m=>(mLines kind m.1 r).map (some m::·)
def mPiece (cs:List Nat):Option (List Ln):=let rows:=spl 10 cs
 if rows.getLast?≠some [] then none else match rows.head? with
 | none=>none
 | some a=>match KINDS.idxOf? a with
  | none=>none
  | some k=>let lines:=(rows.drop 1).dropLast
   if 512<lines.length then none else mLines k 0 lines
def G (c:UInt8):Nat:=clean c.toNat
theorem pc {c x:UInt8} (h:x.toNat∈SIGNS):G c=x.toNat↔c=x:=by
 unfold G clean
 split
 ·exact UInt8.toNat_inj
 ·rename_i hc
  constructor
  ·intro e
   rw[← e] at h
   exact absurd h (by decide)
  ·intro e
   subst e
   exact absurd h hc
theorem dI {c:UInt8}{n:Nat} (h:n∈SIGNS) (hn:n<256:=by decide):G c=n↔c=UInt8.ofNat n:=by
 have e:(UInt8.ofNat n).toNat=n:=by simp[UInt8.toNat_ofNat];omega
 have:=pc (c:=c) (x:=UInt8.ofNat n) (by rw[e];exact h)
 rw[e] at this
 exact this
theorem jT:∀{s e:List UInt8},(∀x∈e,x.toNat∈SIGNS)->(s.map G=e.map UInt8.toNat↔s=e)
 | [],[],_=>by simp
 | [],y::r,_=>by simp
 | a::r,[],_=>by simp
 | a::s,x::e,h=>by
  have h1:=pc (c:=a) (h x (by simp))
  have h2:=jT (s:=s) (e:=e) fun y hy=>h y (by simp[hy])
  simp[h1,h2]
theorem jm {α β:Type} [BEq α] [BEq β] {f:α->β}{a:α}{b:β}:∀{l:List α},(∀y∈l,(f y==b)=(y==a))->(l.map f).idxOf? b=l.idxOf? a
 | [],_=>rfl
 | y::l,h=>by
  have ih:=jm (f:=f) (a:=a) (b:=b) (l:=l) fun z hz=>h z (by simp[hz])
  have h0:=h y (by simp)
  simp only[List.map_cons,List.idxOf?_cons,h0,ih]
theorem ot {c:UInt8}{l:List UInt8} (h:∀x∈l,x.toNat∈SIGNS):(l.map UInt8.toNat).idxOf? (G c)=l.idxOf? c:=jm fun y hy=>by
 have:=pc (c:=c) (h y hy)
 rw[Bool.eq_iff_iff,beq_iff_eq,beq_iff_eq]
 constructor
 ·intro e;exact (this.mp e.symm).symm
 ·intro e;exact (this.mpr e.symm).symm
theorem mT {s:List UInt8}{l:List (List UInt8)} (h:∀e∈l,∀x∈e,x.toNat∈SIGNS):(l.map (List.map UInt8.toNat)).idxOf? (s.map G)=l.idxOf? s:=jm fun y hy=>by
 have:=jT (s:=s) (h y hy)
 rw[Bool.eq_iff_iff,beq_iff_eq,beq_iff_eq]
 constructor
 ·intro e;exact (this.mp e.symm).symm
 ·intro e;exact (this.mpr e.symm).symm
theorem spl_ne {α:Type} [DecidableEq α] (d:α):∀l:List α,spl d l≠[]
 | []=>by simp[spl]
 | c::r=>by
  unfold spl
  split
  ·simp
  ·split <;> simp
theorem spl_hit {α:Type} [DecidableEq α] (d:α) (r:List α):spl d (d::r)=[]::spl d r:=by simp[spl]
theorem jw {α:Type} [DecidableEq α] {d:α}:∀{l:List α},d∉l->spl d l=[l]
 | [],_=>rfl
 | c::r,h=>by
  have ih:=jw (d:=d) (l:=r) fun q=>h (by simp[q])
  have hc:¬c=d:=fun q=>h (by simp[q])
  simp[spl,hc,ih]
theorem ji {α:Type} [DecidableEq α] {d:α}{r:List α}:∀{l:List α},d∉l->spl d (l++d::r)=l::spl d r
 | [],_=>by simp[spl]
 | c::l,h=>by
  have ih:=ji (d:=d) (r:=r) (l:=l) fun q=>h (by simp[q])
  have hc:¬c=d:=fun q=>h (by simp[q])
  simp[spl,hc,ih]
theorem cut_ex {α:Type} [DecidableEq α] (d:α):∀l:List α,d∉l∨∃a r,l=a++d::r/\d∉a
 | []=>.inl (by simp)
 | c::r=>by
  by_cases hc:c=d
  ·exact .inr ⟨[],r,by simp[hc],by simp⟩
  ·rcases cut_ex d r with h | ⟨a,q,e,h⟩
   ·exact .inl (by simp;exact⟨fun e=>hc e.symm,h⟩)
   ·exact .inr ⟨c::a,q,by simp[e],by simp;exact⟨fun e=>hc e.symm,h⟩⟩
theorem cw {α:Type} [DecidableEq α] (d:α):∀l:List α,∃a ps,spl d l=a::ps/\l=a++ps.flatMap (d::·)/\d∉a/\∀p∈ps,d∉p
 | []=>⟨[],[],rfl,rfl,by simp,by simp⟩
 | c::r=>by
  obtain⟨a,ps,e1,e2,h1,h2⟩:=cw d r
  by_cases hc:c=d
  ·refine⟨[],a::ps,by simp[spl,hc,e1],by simp[hc];exact e2,by simp,?_⟩
   intro p hp
   rcases List.mem_cons.mp hp with rfl | hp
   ·exact h1
   ·exact h2 p hp
  ·refine⟨c::a,ps,by simp[spl,hc,e1],?_,?_,h2⟩
   ·rw[e2];rfl
   ·simp;exact⟨fun e=>hc e.symm,h1⟩
theorem qr {n:Nat}{d:UInt8} (h:∀c,G c=n↔c=d):∀l:List UInt8,spl n (l.map G)=(spl d l).map (List.map G)
 | []=>rfl
 | c::r=>by
  have ih:=qr h r
  by_cases hc:c=d
  ·simp[spl,hc,(h d).mpr rfl,ih]
  ·have hg:¬G c=n:=fun q=>hc ((h c).mp q)
   simp only[List.map_cons,spl,hc,hg,if_false,ih]
   cases e:spl d r with
   | nil=>rfl
   | cons a l=>rfl
end LM
end
section
namespace LM
open LuteTab
def tl:Option Bytes->Bytes
 | none=>[]
 | some r=>10::r
def Res {α:Type} (x:Rd α) (o:Option α) (t:Option Bytes):Prop:=match o,t with
 | some a,some rest=>∃q,x=.ok (a,q,rest)
 | _,_=>∃e,x=.error e
def Stopped (S:Bytes):Prop:=S=[]∨∃c r,S=c::r/\(c=32∨c=10)
def fbU:List (List UInt8):=[[97],[47,97],[47,47,97],[47,47,47,97],[52],[53],[54],[55]]
def ibU:List (List UInt8):=[[55],[56],[57],[49,48],[49,49],[49,50],[49,51],[49,52]]
def Reads (read:Nat->Bytes->Rd Nat) (tab:List (List UInt8)):Prop:=∀p s S,32∉s->10∉s->Stopped S->match tab.idxOf? s with
 | some i=>∃q,read p (s++S)=.ok (7+i,q,S)
 | none=>(∃e,read p (s++S)=.error e)∨∃b q c v,read p (s++S)=.ok (b,q,c::v)/\c≠32/\c≠10
theorem idx_none {α:Type} [BEq α] [LawfulBEq α] {l:List α}{a:α} (h:a∉l):l.idxOf? a=none:=by
 rw[List.idxOf?_eq_none_iff];exact h
theorem nD (n p:Nat):slashes n p []=.error p:=by unfold slashes;rfl
theorem px (n p:Nat) (r:Bytes):slashes n p (47::r)=if n<3 then slashes (n+1) (p+1) r else .error p:=by
 conv=>lhs;unfold slashes
 rfl
theorem pw (n p:Nat) (r:Bytes):slashes n p (97::r)=.ok (7+n,p+1,r):=by unfold slashes;rfl
theorem bP {n p:Nat}{c:UInt8}{r:Bytes} (h1:c≠47) (h2:c≠97):slashes n p (c::r)=.error p:=by
 unfold slashes
 split
 ·rename_i e;injection e with e1 _;exact absurd e1 h1
 ·rename_i e;injection e with e1 _;exact absurd e1 h2
 ·rfl
theorem mC (n p:Nat) {S:Bytes} (h:Stopped S):∃e,slashes n p S=.error e:=by
 rcases h with rfl | ⟨c,r,rfl,rfl | rfl⟩
 ·exact⟨_,nD _ _⟩
 ·exact⟨_,bP (by decide) (by decide)⟩
 ·exact⟨_,bP (by decide) (by decide)⟩
theorem ff:∀(s:Bytes) (n p:Nat) (S:Bytes),n<=3->32∉s->10∉s->Stopped S ->
  (∃k q,n+k<=3/\s=List.replicate k 47++[97]/\slashes n p (s++S)=.ok (7+n+k,q,S)) ∨
  ((¬∃k,n+k<=3/\s=List.replicate k 47++[97])/\((∃e,slashes n p (s++S)=.error e)∨∃b q c v,slashes n p (s++S)=.ok (b,q,c::v)/\c≠32/\c≠10))
 | [],n,p,S,hn,_,_,hS=>by
  refine .inr ⟨?_,.inl (mC n p hS)⟩
  rintro⟨k,_,e⟩
  cases k <;> simp[List.replicate] at e
 | c::s,n,p,S,hn,h32,h10,hS=>by
  have h32':32∉s:=fun q=>h32 (by simp[q])
  have h10':10∉s:=fun q=>h10 (by simp[q])
  rw[List.cons_append]
  by_cases e47:c=47
  ·subst e47
   rw[px]
   by_cases h3:n<3
   ·rw[if_pos h3]
    rcases ff s (n+1) (p+1) S (by omega) h32' h10' hS with ⟨k,q,hk,e,h⟩ | ⟨hno,h⟩
    ·refine .inl ⟨k+1,q,by omega,by simp[List.replicate_succ,e],?_⟩
     have e7:7+(n+1)+k=7+n+(k+1):=by omega
     rw[h,e7]
    ·refine .inr ⟨?_,h⟩
     rintro⟨k,hk,e⟩
     cases k with
     | zero=>simp at e
     | succ k =>
      simp[List.replicate_succ] at e
      exact hno ⟨k,by omega,e⟩
   ·rw[if_neg h3]
    refine .inr ⟨?_,.inl ⟨_,rfl⟩⟩
    rintro⟨k,hk,e⟩
    cases k with
    | zero=>simp at e
    | succ k=>omega
  ·by_cases e97:c=97
   ·subst e97
    rw[pw]
    cases s with
    | nil=>exact .inl ⟨0,p+1,by omega,rfl,rfl⟩
    | cons d s =>
     refine .inr ⟨?_,.inr ⟨_,_,d,s++S,rfl,fun q=>h32' (by simp[q]),fun q=>h10' (by simp[q])⟩⟩
     rintro⟨k,hk,e⟩
     cases k with
     | zero=>simp at e
     | succ k=>simp[List.replicate_succ] at e
   ·refine .inr ⟨?_,.inl ⟨_,bP e47 e97⟩⟩
    rintro⟨k,hk,e⟩
    cases k with
    | zero=>simp at e;exact e97 e.1
    | succ k=>simp[List.replicate_succ] at e;exact e47 e.1
theorem mX:Reads frenchBassAt fbU:=by
 intro p s S h32 h10 hS
 cases s with
 | nil =>
  have e:fbU.idxOf? []=none:=by decide
  rw[e]
  refine .inl ?_
  rcases hS with rfl | ⟨c,r,rfl,rfl | rfl⟩
  ·exact⟨_,rfl⟩
  ·unfold frenchBassAt
   exact⟨_,by rw[List.nil_append];simp only[];rw[if_neg (by decide),bP (by decide) (by decide)]⟩
  ·unfold frenchBassAt
   exact⟨_,by rw[List.nil_append];simp only[];rw[if_neg (by decide),bP (by decide) (by decide)]⟩
 | cons c s =>
  have h32':32∉s:=fun q=>h32 (by simp[q])
  have h10':10∉s:=fun q=>h10 (by simp[q])
  unfold frenchBassAt
  rw[List.cons_append]
  simp only[]
  by_cases hc:52<=c/\c<=55
  ·rw[if_pos hc]
   have hcs:c=52∨c=53∨c=54∨c=55:=by
    obtain⟨a,b⟩:=hc
    rw[UInt8.le_iff_toNat_le] at a b
    simp only[← UInt8.toNat_inj]
    have:(52:UInt8).toNat=52:=rfl
    have:(53:UInt8).toNat=53:=rfl
    have:(54:UInt8).toNat=54:=rfl
    have:(55:UInt8).toNat=55:=rfl
    omega
   cases s with
   | nil =>
    rcases hcs with rfl | rfl | rfl | rfl
    ·exact⟨p+1,rfl⟩
    ·exact⟨p+1,rfl⟩
    ·exact⟨p+1,rfl⟩
    ·exact⟨p+1,rfl⟩
   | cons d s =>
    have e:fbU.idxOf? (c::d::s)=none:=idx_none (by
     rcases hcs with rfl | rfl | rfl | rfl <;> simp[fbU])
    rw[e]
    exact .inr ⟨_,_,d,s++S,rfl,fun q=>h32' (by simp[q]),fun q=>h10' (by simp[q])⟩
  ·rw[if_neg hc]
   have hm:∀k,k<=3->fbU.idxOf? (List.replicate k 47++[97])=some k:=by decide
   rcases ff (c::s) 0 p S (by omega) h32 h10 hS with ⟨k,q,hk,e,h⟩ | ⟨hno,h⟩
   ·rw[e,hm k (by omega)]
    rw[e] at h
    refine⟨q,?_⟩
    rw[← List.cons_append,e,h]
   ·have e:fbU.idxOf? (c::s)=none:=idx_none (fun hmem=>by
     have:∀e∈fbU,(∃k,k<=3/\e=List.replicate k 47++[97])∨e=[52]∨e=[53]∨e=[54]∨e=[55]:=by
      intro e he
      simp only[fbU,List.mem_cons,List.not_mem_nil,or_false] at he
      rcases he with h | h | h | h | h | h | h | h
      ·exact .inl ⟨0,by omega,h⟩
      ·exact .inl ⟨1,by omega,h⟩
      ·exact .inl ⟨2,by omega,h⟩
      ·exact .inl ⟨3,by omega,h⟩
      ·exact .inr (.inl h)
      ·exact .inr (.inr (.inl h))
      ·exact .inr (.inr (.inr (.inl h)))
      ·exact .inr (.inr (.inr (.inr h)))
     rcases this _ hmem with ⟨k,hk,e⟩ | e | e | e | e
     ·exact hno ⟨k,by omega,e⟩
     all_goals
      injection e with e1 _
      subst e1
      exact hc (by decide))
    rw[e]
    exact h
theorem gx:Reads numberAt ibU:=by
 intro p s S h32 h10 hS
 cases s with
 | nil =>
  have e:ibU.idxOf? []=none:=by decide
  rw[e]
  refine .inl ?_
  rcases hS with rfl | ⟨c,r,rfl,rfl | rfl⟩
  ·exact⟨_,rfl⟩
  ·unfold numberAt
   exact⟨_,by rw[List.nil_append];simp only[];rw[if_neg (by decide),if_neg (by decide)]⟩
  ·unfold numberAt
   exact⟨_,by rw[List.nil_append];simp only[];rw[if_neg (by decide),if_neg (by decide)]⟩
 | cons c s =>
  have h32':32∉s:=fun q=>h32 (by simp[q])
  have h10':10∉s:=fun q=>h10 (by simp[q])
  unfold numberAt
  rw[List.cons_append]
  simp only[]
  by_cases hc:55<=c/\c<=57
  ·rw[if_pos hc]
   have hcs:c=55∨c=56∨c=57:=by
    obtain⟨a,b⟩:=hc
    rw[UInt8.le_iff_toNat_le] at a b
    simp only[← UInt8.toNat_inj]
    have:(55:UInt8).toNat=55:=rfl
    have:(56:UInt8).toNat=56:=rfl
    have:(57:UInt8).toNat=57:=rfl
    omega
   cases s with
   | nil =>
    rcases hcs with rfl | rfl | rfl
    ·exact⟨p+1,rfl⟩
    ·exact⟨p+1,rfl⟩
    ·exact⟨p+1,rfl⟩
   | cons d s =>
    have e:ibU.idxOf? (c::d::s)=none:=idx_none (by
     rcases hcs with rfl | rfl | rfl <;> simp[ibU])
    rw[e]
    exact .inr ⟨_,_,d,s++S,rfl,fun q=>h32' (by simp[q]),fun q=>h10' (by simp[q])⟩
  ·rw[if_neg hc]
   by_cases h49:c=49
   ·subst h49
    rw[if_pos rfl]
    cases s with
    | nil =>
     have e:ibU.idxOf? [49]=none:=by decide
     rw[e]
     refine .inl ?_
     rcases hS with rfl | ⟨c,r,rfl,rfl | rfl⟩
     ·exact⟨_,rfl⟩
     ·exact⟨_,by rw[List.nil_append];simp only[];rw[if_neg (by decide)]⟩
     ·exact⟨_,by rw[List.nil_append];simp only[];rw[if_neg (by decide)]⟩
    | cons d s =>
     rw[List.cons_append]
     simp only[]
     have h32'':32∉s:=fun q=>h32' (by simp[q])
     have h10'':10∉s:=fun q=>h10' (by simp[q])
     by_cases hd:48<=d/\d<=52
     ·rw[if_pos hd]
      have hds:d=48∨d=49∨d=50∨d=51∨d=52:=by
       obtain⟨a,b⟩:=hd
       rw[UInt8.le_iff_toNat_le] at a b
       simp only[← UInt8.toNat_inj]
       have:(48:UInt8).toNat=48:=rfl
       have:(49:UInt8).toNat=49:=rfl
       have:(50:UInt8).toNat=50:=rfl
       have:(51:UInt8).toNat=51:=rfl
       have:(52:UInt8).toNat=52:=rfl
       omega
      cases s with
      | nil =>
       rcases hds with rfl | rfl | rfl | rfl | rfl
       ·exact⟨p+2,rfl⟩
       ·exact⟨p+2,rfl⟩
       ·exact⟨p+2,rfl⟩
       ·exact⟨p+2,rfl⟩
       ·exact⟨p+2,rfl⟩
      | cons f s =>
       have e:ibU.idxOf? (49::d::f::s)=none:=idx_none (by
        rcases hds with rfl | rfl | rfl | rfl | rfl <;> simp[ibU])
       rw[e]
       exact .inr ⟨_,_,f,s++S,rfl,fun q=>h32'' (by simp[q]),fun q=>h10'' (by simp[q])⟩
     ·rw[if_neg hd]
      have e:ibU.idxOf? (49::d::s)=none:=idx_none (fun hm=>by
       simp only[ibU,List.mem_cons,List.not_mem_nil,or_false,List.cons.injEq] at hm
       rcases hm with h | h | h | h | h | h | h | h
       all_goals first | exact absurd h.1 (by decide) | (obtain⟨_,rfl,_⟩:=h;exact hd (by decide)))
      rw[e]
      exact .inl ⟨_,rfl⟩
   ·rw[if_neg h49]
    have e:ibU.idxOf? (c::s)=none:=idx_none (fun hm=>by
     simp only[ibU,List.mem_cons,List.not_mem_nil,or_false,List.cons.injEq] at hm
     rcases hm with h | h | h | h | h | h | h | h
     all_goals first | exact h49 h.1 | (obtain⟨rfl,_⟩:=h;exact hc (by decide)))
    rw[e]
    exact .inl ⟨_,rfl⟩
end LM
end
section
namespace LM
open LuteTab
def toS (x:St):Stop:=⟨x.1,x.2⟩
def chained (last:Nat) (o:Option (List St)):Option (List St):=match o with
 | some l=>if chain last l=true then some l else none
 | none=>none
def stp (o:Option (List St)):Option (List Stop):=o.map (List.map toS)
theorem e8 {ts:List Bytes}{t:Option Bytes}:Stopped (ts.flatMap (32::·)++tl t):=by
 cases ts with
 | nil=>cases t with
  | none=>exact .inl rfl
  | some r=>exact .inr ⟨10,r,rfl,.inr rfl⟩
 | cons s ts=>exact .inr ⟨32,_,rfl,.inl rfl⟩
theorem qd (read:Nat->Bytes->Rd Nat) (last p:Nat) (t:Bytes):bassesAt read 0 last p t=.error p:=by unfold bassesAt;rfl
theorem fq {read:Nat->Bytes->Rd Nat}{f last p:Nat}{c:UInt8}{r:Bytes} (h1:c≠32) (h2:c≠10):∃e,bassesAt read f last p (c::r)=.error e:=by
 cases f with
 | zero=>exact⟨_,qd _ _ _ _⟩
 | succ f =>
  refine⟨p,?_⟩
  unfold bassesAt
  rw[if_neg (show ¬c=END from h2),if_pos (show c≠BLANK from h1)]
theorem kI {read:Nat->Bytes->Rd Nat}{tab:List (List UInt8)} (R:Reads read tab) (hs:∀e∈tab,∀x∈e,x.toNat∈SIGNS) :
  ∀(ts:List Bytes) (f last p:Nat) (t:Option Bytes),(∀s∈ts,32∉s/\10∉s)->(ts.flatMap (32::·)++tl t).length<f ->
   Res (bassesAt read f last p (ts.flatMap (32::·)++tl t)) (stp (chained last (mBassList (tab.map (List.map UInt8.toNat)) (ts.map (List.map G))))) t
 | [],f+1,last,p,t,_,_=>by
  cases t with
  | none=>exact⟨p,rfl⟩
  | some r =>
   refine⟨p+1,?_⟩
   show bassesAt read (f+1) last p (10::r)=_
   unfold bassesAt
   rw[if_pos (show (10:UInt8)=END by decide)]
   rfl
 | s::ts,f+1,last,p,t,hts,hf=>by
  have hs1:=hts s (by simp)
  have hts':∀s∈ts,32∉s/\10∉s:=fun x hx=>hts x (by simp[hx])
  have hR:=R (p+1) s (ts.flatMap (32::·)++tl t) hs1.1 hs1.2 e8
  have e0:(s::ts).flatMap ((32:UInt8)::·)++tl t=32::(s++(ts.flatMap (32::·)++tl t)):=by simp[List.flatMap_cons,List.append_assoc]
  have hf':(ts.flatMap (32::·)++tl t).length<f:=by
   rw[e0] at hf
   simp only[List.length_cons,List.length_append] at hf ⊢
   omega
  rw[e0]
  have e1:bassesAt read (f+1) last p (32::(s++(ts.flatMap (32::·)++tl t)))=match read (p+1) (s++(ts.flatMap (32::·)++tl t)) with
    | .error e=>.error e
    | .ok (b,q,u)=>if b<=last then .error (p+1) else match bassesAt read f b q u with
     | .error e=>.error e
     | .ok (l,z,v)=>.ok (⟨b,0⟩::l,z,v):=by
   conv=>lhs;unfold bassesAt
   rw[if_neg (show ¬(32:UInt8)=END by decide),if_neg (show ¬(32:UInt8)≠BLANK by decide)]
   rfl
  rw[e1]
  have ei:(tab.map (List.map UInt8.toNat)).idxOf? (s.map G)=tab.idxOf? s:=mT hs
  simp only[List.map_cons,mBassList,ei]
  cases ht:tab.idxOf? s with
  | none =>
   rw[ht] at hR
   have goal:∀x:Rd (List Stop),(∃e,x=.error e)->Res x (stp (chained last none)) t:=fun x h=>by
    cases t <;> exact h
   rcases hR with ⟨e,h⟩ | ⟨b,q,c,v,h,h1,h2⟩
   ·rw[h];exact goal _ ⟨_,rfl⟩
   ·rw[h]
    refine goal _ ?_
    simp only[]
    by_cases hb:b<=last
    ·rw[if_pos hb];exact⟨_,rfl⟩
    ·rw[if_neg hb]
     obtain⟨e,h3⟩:=fq (read:=read) (f:=f) (last:=b) (p:=q) (r:=v) h1 h2
     rw[h3];exact⟨_,rfl⟩
  | some i =>
   rw[ht] at hR
   obtain⟨q,h⟩:=hR
   rw[h]
   simp only[]
   have ih:=kI R hs ts f (7+i) q t hts' hf'
   by_cases hb:7+i<=last
   ·rw[if_pos hb]
    cases hm:mBassList (tab.map (List.map UInt8.toNat)) (ts.map (List.map G)) with
    | none=>cases t <;> exact⟨_,rfl⟩
    | some l =>
     have hc:¬chain last ((7+i,0)::l)=true:=by simp[chain];omega
     simp only[Option.map_some,chained,if_neg hc,stp,Option.map_none]
     cases t <;> exact⟨_,rfl⟩
   ·rw[if_neg hb]
    cases hm:mBassList (tab.map (List.map UInt8.toNat)) (ts.map (List.map G)) with
    | none =>
     rw[hm] at ih
     have:∃e,bassesAt read f (7+i) q (ts.flatMap (32::·)++tl t)=.error e:=by cases t <;> exact ih
     obtain⟨e,h3⟩:=this
     rw[h3]
     cases t <;> exact⟨_,rfl⟩
    | some l =>
     rw[hm] at ih
     have hc:chain last ((7+i,0)::l)=chain (7+i) l:=by simp[chain];omega
     by_cases hl:chain (7+i) l=true
     ·simp only[chained,if_pos hl,stp,Option.map_some] at ih
      simp only[Option.map_some,chained,hc,if_pos hl,stp]
      cases t with
      | none =>
       obtain⟨e,h3⟩:=ih
       rw[h3];exact⟨_,rfl⟩
      | some r =>
       obtain⟨z,h3⟩:=ih
       rw[h3];exact⟨z,rfl⟩
     ·simp only[chained,if_neg hl,stp,Option.map_none] at ih
      simp only[Option.map_some,chained,hc,if_neg hl,stp,Option.map_none]
      have:∃e,bassesAt read f (7+i) q (ts.flatMap (32::·)++tl t)=.error e:=by cases t <;> exact ih
      obtain⟨e,h3⟩:=this
      rw[h3]
      cases t <;> exact⟨_,rfl⟩
theorem kH {read:Nat->Bytes->Rd Nat}{tab:List (List UInt8)} (R:Reads read tab) (hs:∀e∈tab,∀x∈e,x.toNat∈SIGNS) (row:Bytes) (f p:Nat) (t:Option Bytes) (h10:10∉row) (hf:(row++tl t).length<f) :
  Res (bassesAt read f 6 p (row++tl t)) (stp (chained 6 (mBasses (tab.map (List.map UInt8.toNat)) (row.map G)))) t:=by
 obtain⟨a,ps,e1,e2,h1,h2⟩:=cw (32:UInt8) row
 have eG:spl 32 (row.map G)=(spl 32 row).map (List.map G):=qr (fun c=>dI (n:=32) (by decide)) row
 unfold mBasses
 rw[eG,e1]
 cases a with
 | nil =>
  have hts:∀s∈ps,32∉s/\10∉s:=fun s hp=>⟨h2 s hp,fun q=>h10 (by
   rw[e2];simp only[List.nil_append,List.mem_flatMap];exact⟨s,hp,by simp[q]⟩)⟩
  have e3:row=ps.flatMap (32::·):=e2
  rw[e3] at hf ⊢
  exact kI R hs ps f 6 p t hts hf
 | cons c a =>
  have hc1:c≠32:=fun q=>h1 (by simp[q])
  have hc2:c≠10:=fun q=>h10 (by rw[e2];simp[q])
  obtain⟨e,h⟩:=fq (read:=read) (f:=f) (last:=6) (p:=p) (r:=a++(ps.flatMap (32::·))++tl t) hc1 hc2
  have e3:row++tl t=c::(a++ps.flatMap (32::·)++tl t):=by rw[e2];simp
  rw[e3,h]
  simp only[List.map_cons]
  cases t <;> exact⟨_,rfl⟩
end LM
end
section
namespace LM
open LuteTab
def zg (frets:List Nat):List (Nat×Nat)->Option (List St)
 | []=>some []
 | (k,c)::r=>if c=46 then zg frets r else match frets.idxOf? c with
  | none=>none
  | some f=>(zg frets r).map ((k,f)::·)
theorem jW (frets:List Nat):∀(s:List Nat) (k:Nat),mGrid frets k s=zg frets ((List.range' k s.length).zip s)
 | [],k=>by simp[mGrid,zg]
 | c::s,k=>by
  have ih:=jW frets s (k+1)
  simp only[mGrid,zg,List.range'_succ,List.length_cons,List.zip_cons_cons,ih]
  all_goals rfl
theorem tY (frets:List Nat):∀(a b:List (Nat×Nat)),zg frets (a++b)=both (zg frets a) (zg frets b)
 | [],b=>by
  simp[zg]
  cases zg frets b <;> rfl
 | (k,c)::a,b=>by
  have ih:=tY frets a b
  simp only[List.cons_append,zg]
  by_cases hc:c=46
  ·simp[hc,ih]
  ·simp only[hc,if_false]
   cases frets.idxOf? c with
   | none=>simp[both]
   | some f =>
    simp only[ih]
    cases zg frets a <;> cases zg frets b <;> simp[both]
theorem tX (frets:List Nat):∀(a:List (Nat×Nat)),zg frets a.reverse=(zg frets a).map List.reverse
 | []=>rfl
 | (k,c)::a=>by
  have ih:=tX frets a
  simp only[List.reverse_cons,tY,ih,zg]
  by_cases hc:c=46
  ·simp only[hc,if_true]
   cases zg frets a <;> simp[both]
  ·simp only[hc,if_false]
   cases frets.idxOf? c with
   | none =>
    cases zg frets a <;> simp[both]
   | some f =>
    cases zg frets a <;> simp[both]
theorem mD {signs:Bytes} (hs:∀x∈signs,x.toNat∈SIGNS) (h10:10∉signs):∀(cs:List Nat) (p:Nat) (row:Bytes) (t:Option Bytes),10∉row ->
  if cs.length<=row.length then (match zg (signs.map UInt8.toNat) (cs.zip (row.map G)) with
   | some l=>∃q,sixAt signs cs p (row++tl t)=.ok (l.map toS,q,row.drop cs.length++tl t)
   | none=>∃e,sixAt signs cs p (row++tl t)=.error e) else ∃e,sixAt signs cs p (row++tl t)=.error e
 | [],p,row,t,_=>by
  simp[zg,sixAt]
 | c::cs,p,[],t,_=>by
  rw[if_neg (by simp)]
  cases t with
  | none=>exact⟨p,rfl⟩
  | some r =>
   refine⟨p,?_⟩
   have:fretAt signs p (10::r)=.error p:=by
    unfold fretAt
    dsimp only
    rw[if_neg (show ¬(10:UInt8)=POINT by decide),idx_none h10]
   show sixAt signs (c::cs) p (10::r)=_
   unfold sixAt
   rw[this]
 | c::cs,p,d::row,t,hr=>by
  have hr':10∉row:=fun q=>hr (by simp[q])
  have ih:=fun q=>mD hs h10 cs q row t hr'
  have ei:(signs.map UInt8.toNat).idxOf? (G d)=signs.idxOf? d:=ot hs
  have e46:G d=46↔d=POINT:=dI (n:=46) (by decide)
  have hl:(c::cs).length<=(d::row).length↔cs.length<=row.length:=by simp
  have hst:∀(f:Option Nat) q,fretAt signs p (d::(row++tl t))=.ok (f,q,row++tl t)->sixAt signs (c::cs) p (d::(row++tl t))=match sixAt signs cs q (row++tl t) with
    | .error e=>.error e
    | .ok (s,z,v)=>.ok ((match f with
     | some x=>⟨c,x⟩::s
     | none=>s),z,v):=fun f q h=>by
   conv=>lhs;unfold sixAt
   rw[h]
   rfl
  simp only[List.map_cons,List.zip_cons_cons,List.cons_append,List.drop_succ_cons,List.length_cons,hl]
  by_cases hd:d=POINT
  ·have hf:fretAt signs p (d::(row++tl t))=.ok (none,p+1,row++tl t):=by
    unfold fretAt
    dsimp only
    rw[if_pos hd]
   rw[hst _ _ hf]
   have ih1:=ih (p+1)
   simp only[zg,e46.mpr hd,if_true]
   by_cases hlen:cs.length<=row.length
   ·rw[if_pos hlen] at ih1
    rw[if_pos (by omega)]
    cases hz:zg (signs.map UInt8.toNat) (cs.zip (row.map G)) with
    | none =>
     rw[hz] at ih1
     obtain⟨e,h⟩:=ih1
     rw[h];exact⟨_,rfl⟩
    | some l =>
     rw[hz] at ih1
     obtain⟨q,h⟩:=ih1
     rw[h];exact⟨_,rfl⟩
   ·rw[if_neg hlen] at ih1
    rw[if_neg (by omega)]
    obtain⟨e,h⟩:=ih1
    rw[h];exact⟨_,rfl⟩
  ·have hg:¬G d=46:=fun q=>hd (e46.mp q)
   simp only[zg,hg,if_false,ei]
   cases hi:signs.idxOf? d with
   | none =>
    have hf:fretAt signs p (d::(row++tl t))=.error p:=by
     unfold fretAt
     dsimp only
     rw[if_neg hd,hi]
    have:∃e,sixAt signs (c::cs) p (d::(row++tl t))=.error e:=⟨p,by
     unfold sixAt
     rw[hf]⟩
    split <;> exact this
   | some x =>
    have hf:fretAt signs p (d::(row++tl t))=.ok (some x,p+1,row++tl t):=by
     unfold fretAt
     dsimp only
     rw[if_neg hd,hi]
    rw[hst _ _ hf]
    have ih1:=ih (p+1)
    by_cases hlen:cs.length<=row.length
    ·rw[if_pos hlen] at ih1
     rw[if_pos (by omega)]
     cases hz:zg (signs.map UInt8.toNat) (cs.zip (row.map G)) with
     | none =>
      rw[hz] at ih1
      obtain⟨e,h⟩:=ih1
      rw[h];exact⟨_,rfl⟩
     | some l =>
      rw[hz] at ih1
      obtain⟨q,h⟩:=ih1
      rw[h];exact⟨_,rfl⟩
    ·rw[if_neg hlen] at ih1
     rw[if_neg (by omega)]
     obtain⟨e,h⟩:=ih1
     rw[h];exact⟨_,rfl⟩
theorem dD {frets:List Nat}:∀{s:List Nat}{k:Nat}{l:List St},mGrid frets k s=some l->(∀x∈l,k<=x.1/\x.1<k+s.length)/\∀n,n<k->chain n l=true
 | [],k,l,h=>by
  simp[mGrid] at h
  subst h
  exact⟨by simp,fun _ _=>rfl⟩
 | c::s,k,l,h=>by
  unfold mGrid at h
  by_cases hc:c=46
  ·rw[if_pos hc] at h
   obtain⟨h1,h2⟩:=dD h
   refine⟨fun x hx=>?_,fun n hn=>h2 n (by omega)⟩
   have:=h1 x hx
   simp only[List.length_cons]
   omega
  ·rw[if_neg hc] at h
   cases hf:frets.idxOf? c with
   | none=>rw[hf] at h;cases h
   | some f =>
    rw[hf] at h
    simp only[Option.map_eq_some_iff] at h
    obtain⟨l',h',rfl⟩:=h
    obtain⟨h1,h2⟩:=dD h'
    refine⟨fun x hx=>?_,fun n hn=>?_⟩
    ·rcases List.mem_cons.mp hx with rfl | hx
     ·simp only[List.length_cons];omega
     ·have:=h1 x hx
      simp only[List.length_cons]
      omega
    ·simp only[chain,Bool.and_eq_true,decide_eq_true_eq]
     exact⟨hn,h2 k (by omega)⟩
theorem tR:∀{b:List St}{n:Nat},n<=6->(∀x∈b,7<=x.1)->chain n b=chain 6 b
 | [],_,_,_=>rfl
 | x::b,n,hn,h=>by
  have:=h x (by simp)
  have h1:n<x.1:=by omega
  have h2:6<x.1:=by omega
  simp[chain,h1,h2]
theorem kD:∀{g b:List St}{n:Nat},n<=6->(∀x∈g,x.1<=6)->(∀x∈b,7<=x.1)->chain n g=true->chain n (g++b)=chain 6 b
 | [],b,n,hn,_,hb,_=>tR hn hb
 | x::g,b,n,hn,hg,hb,h=>by
  simp only[chain,Bool.and_eq_true,decide_eq_true_eq] at h
  have:=kD (g:=g) (b:=b) (n:=x.1) (hg x (by simp)) (fun y hy=>hg y (by simp[hy])) hb h.2
  simp[chain,h.1,this]
theorem jE:∀{l:List St},(∀x∈l,1<=x.1)->rise l=chain 0 l
 | [],_=>rfl
 | x::l,h=>by
  have:0<x.1:=h x (by simp)
  simp[rise,chain,this]
theorem dj {tab:List (List Nat)}:∀{ts:List (List Nat)}{l:List St},mBassList tab ts=some l->∀x∈l,7<=x.1
 | [],l,h=>by
  simp[mBassList] at h
  subst h
  simp
 | s::ts,l,h=>by
  unfold mBassList at h
  cases hi:tab.idxOf? s with
  | none=>rw[hi] at h;cases h
  | some i =>
   rw[hi] at h
   simp only[Option.map_eq_some_iff] at h
   obtain⟨l',h',rfl⟩:=h
   intro x hx
   rcases List.mem_cons.mp hx with rfl | hx
   ·simp
   ·exact dj h' x hx
theorem j5 {tab:List (List Nat)}{s:List Nat}{l:List St} (h:mBasses tab s=some l):∀x∈l,7<=x.1:=by
 unfold mBasses at h
 split at h
 ·exact dj h
 ·cases h
theorem jD {frets s:List Nat}{tab:List (List Nat)}{u:List Nat}:risen (both (mGrid6 frets s) (mBasses tab u))=both (mGrid6 frets s) (chained 6 (mBasses tab u)):=by
 cases hg:mGrid6 frets s with
 | none=>simp[both,risen]
 | some g =>
  cases hb:mBasses tab u with
  | none=>simp[both,risen,chained]
  | some b =>
   have hl:s.length=6:=by
    unfold mGrid6 at hg
    split at hg
    ·assumption
    ·cases hg
   have hg':mGrid frets 1 s=some g:=by
    unfold mGrid6 at hg
    rw[if_pos hl] at hg
    exact hg
   obtain⟨h1,h2⟩:=dD hg'
   have hb':=j5 hb
   have hr:rise (g++b)=chain 6 b:=by
    rw[jE]
    ·exact kD (by omega) (fun x hx=>by have:=h1 x hx;omega) hb' (h2 0 (by omega))
    ·intro x hx
     rcases List.mem_append.mp hx with hx | hx
     ·exact (h1 x hx).1
     ·have:=hb' x hx;omega
   simp only[both,risen,chained,hr]
   split <;> simp
theorem take6 {s:List Nat} (h:6<=s.length):∃a b c d e f r,s=a::b::c::d::e::f::r:=by
 match s,h with
 | a::b::c::d::e::f::r,_=>exact⟨a,b,c,d,e,f,r,rfl⟩
theorem oG (s:List Nat):mGrid6 FF (s.take 6)=if 6<=s.length then zg FF ([1,2,3,4,5,6].zip s) else none:=by
 unfold mGrid6
 by_cases h:6<=s.length
 ·obtain⟨a,b,c,d,e,f,r,rfl⟩:=take6 h
  rw[if_pos h,if_pos (by simp),jW]
  rfl
 ·rw[if_neg h,if_neg (by simp;omega)]
theorem mR (s:List Nat):mGrid6 IF (s.take 6).reverse=if 6<=s.length then (zg IF ([6,5,4,3,2,1].zip s)).map List.reverse else none:=by
 unfold mGrid6
 by_cases h:6<=s.length
 ·obtain⟨a,b,c,d,e,f,r,rfl⟩:=take6 h
  rw[if_pos h,if_pos (by simp),jW,← tX]
  rfl
 ·rw[if_neg h,if_neg (by simp;omega)]
theorem vt:letters.map UInt8.toNat=FF:=by decide +kernel
theorem vL:figures.map UInt8.toNat=IF:=by decide +kernel
theorem Ag:fbU.map (List.map UInt8.toNat)=FB:=by decide +kernel
theorem zt:ibU.map (List.map UInt8.toNat)=IB:=by decide +kernel
theorem pW (p:Nat) (row:Bytes) (t:Option Bytes) (h10:10∉row):Res (stopsAt .french p (row++tl t)) (stp (mStops 0 (row.map G))) t:=by
 have hst:mStops 0 (row.map G)=both (if 6<=row.length then zg FF ([1,2,3,4,5,6].zip (row.map G)) else none) (chained 6 (mBasses FB ((row.drop 6).map G))):=by
  unfold mStops mFrench
  rw[if_pos rfl,jD,oG,List.length_map,List.map_drop]
 have h6:=mD (signs:=letters) (by decide +kernel) (by decide +kernel) [1,2,3,4,5,6] p row t h10
 rw[vt] at h6
 rw[hst]
 show Res (match sixAt letters [1,2,3,4,5,6] p (row++tl t) with
  | .error e=>.error e
  | .ok (l,q,u)=>match bassesAt frenchBassAt (u.length+1) 6 q u with
   | .error e=>.error e
   | .ok (b,z,v)=>.ok (l++b,z,v)) _ t
 by_cases hl:6<=row.length
 ·rw[if_pos (show [1,2,3,4,5,6].length<=row.length from hl)] at h6
  rw[if_pos hl]
  cases hz:zg FF ([1,2,3,4,5,6].zip (row.map G)) with
  | none =>
   rw[hz] at h6
   obtain⟨e,h⟩:=h6
   rw[h]
   simp only[both,stp,Option.map_none]
   cases t <;> exact⟨_,rfl⟩
  | some g =>
   rw[hz] at h6
   obtain⟨q,h⟩:=h6
   rw[h]
   have hb:=kH mX (by decide +kernel) (row.drop 6) ((row.drop 6++tl t).length+1) q t (fun q=>h10 (List.mem_of_mem_drop q)) (Nat.lt_succ_self _)
   rw[Ag] at hb
   simp only[]
   cases hc:chained 6 (mBasses FB ((row.drop 6).map G)) with
   | none =>
    rw[hc] at hb
    have:∃e,bassesAt frenchBassAt ((row.drop 6++tl t).length+1) 6 q (row.drop 6++tl t)=.error e:=by cases t <;> exact hb
    obtain⟨e,h3⟩:=this
    simp only[both,stp,Option.map_none]
    show Res (match bassesAt frenchBassAt ((row.drop 6++tl t).length+1) 6 q (row.drop 6++tl t) with
     | .error e=>.error e
     | .ok (b,z,v)=>.ok (g.map toS++b,z,v)) none t
    rw[h3]
    cases t <;> exact⟨_,rfl⟩
   | some b =>
    rw[hc] at hb
    show Res (match bassesAt frenchBassAt ((row.drop 6++tl t).length+1) 6 q (row.drop 6++tl t) with
     | .error e=>.error e
     | .ok (b,z,v)=>.ok (g.map toS++b,z,v)) _ t
    cases t with
    | none =>
     obtain⟨e,h3⟩:=hb
     rw[h3];exact⟨_,rfl⟩
    | some r =>
     obtain⟨z,h3⟩:=hb
     rw[h3]
     exact⟨z,by simp⟩
 ·rw[if_neg (show ¬[1,2,3,4,5,6].length<=row.length from hl)] at h6
  rw[if_neg hl]
  obtain⟨e,h⟩:=h6
  rw[h]
  simp only[both,stp,Option.map_none]
  cases t <;> exact⟨_,rfl⟩
theorem or (p:Nat) (row:Bytes) (t:Option Bytes) (h10:10∉row):Res (stopsAt .italian p (row++tl t)) (stp (mStops 1 (row.map G))) t:=by
 have hst:mStops 1 (row.map G)=both (if 6<=row.length then (zg IF ([6,5,4,3,2,1].zip (row.map G))).map List.reverse else none) (chained 6 (mBasses IB ((row.drop 6).map G))):=by
  unfold mStops mItalian
  rw[if_neg (by decide),if_pos rfl,jD,mR,List.length_map,List.map_drop]
 have h6:=mD (signs:=figures) (by decide +kernel) (by decide +kernel) [6,5,4,3,2,1] p row t h10
 rw[vL] at h6
 rw[hst]
 show Res (match sixAt figures [6,5,4,3,2,1] p (row++tl t) with
  | .error e=>.error e
  | .ok (l,q,u)=>match bassesAt numberAt (u.length+1) 6 q u with
   | .error e=>.error e
   | .ok (b,z,v)=>.ok (l.reverse++b,z,v)) _ t
 by_cases hl:6<=row.length
 ·rw[if_pos (show [6,5,4,3,2,1].length<=row.length from hl)] at h6
  rw[if_pos hl]
  cases hz:zg IF ([6,5,4,3,2,1].zip (row.map G)) with
  | none =>
   rw[hz] at h6
   obtain⟨e,h⟩:=h6
   rw[h]
   simp only[both,stp,Option.map_none]
   cases t <;> exact⟨_,rfl⟩
  | some g =>
   rw[hz] at h6
   obtain⟨q,h⟩:=h6
   rw[h]
   have hb:=kH gx (by decide +kernel) (row.drop 6) ((row.drop 6++tl t).length+1) q t (fun q=>h10 (List.mem_of_mem_drop q)) (Nat.lt_succ_self _)
   rw[zt] at hb
   simp only[]
   cases hc:chained 6 (mBasses IB ((row.drop 6).map G)) with
   | none =>
    rw[hc] at hb
    have:∃e,bassesAt numberAt ((row.drop 6++tl t).length+1) 6 q (row.drop 6++tl t)=.error e:=by cases t <;> exact hb
    obtain⟨e,h3⟩:=this
    simp only[both,stp,Option.map_none,Option.map_some]
    show Res (match bassesAt numberAt ((row.drop 6++tl t).length+1) 6 q (row.drop 6++tl t) with
     | .error e=>.error e
     | .ok (b,z,v)=>.ok ((g.map toS).reverse++b,z,v)) none t
    rw[h3]
    cases t <;> exact⟨_,rfl⟩
   | some b =>
    rw[hc] at hb
    show Res (match bassesAt numberAt ((row.drop 6++tl t).length+1) 6 q (row.drop 6++tl t) with
     | .error e=>.error e
     | .ok (b,z,v)=>.ok ((g.map toS).reverse++b,z,v)) _ t
    cases t with
    | none =>
     obtain⟨e,h3⟩:=hb
     rw[h3];exact⟨_,rfl⟩
    | some r =>
     obtain⟨z,h3⟩:=hb
     rw[h3]
     exact⟨z,by simp⟩
 ·rw[if_neg (show ¬[6,5,4,3,2,1].length<=row.length from hl)] at h6
  rw[if_neg hl]
  obtain⟨e,h⟩:=h6
  rw[h]
  simp only[both,stp,Option.map_none]
  cases t <;> exact⟨_,rfl⟩
end LM
end
section
namespace LM
open LuteTab
theorem kK {P:UInt8->Prop} (h:∀n:Fin 256,P (UInt8.ofNat n.val)) (c:UInt8):P c:=by
 have:=h ⟨c.toNat,c.toNat_lt⟩
 simpa using this
def fh (c:UInt8):Option St:=if 49<=c/\c<=53 then some (6-(c.toNat-48),0) else match capitals.idxOf? c with
 | some f=>some (6,f)
 | none=>match crossings.idxOf? c with
  | none=>none
  | some i=>some (5-i % 5,i / 5+1)
theorem dG (c:UInt8):mGermanStop [G c]=fh c:=by
 revert c
 exact kK (P:=fun c=>mGermanStop [G c]=fh c) (by decide +kernel)
theorem p8:crossings.map UInt8.toNat=GC:=by decide +kernel
theorem dO:∀x∈crossings,x.toNat∈SIGNS:=by decide +kernel
theorem zM (c:UInt8):GC.idxOf? (G c)=crossings.idxOf? c:=by
 rw[← p8]
 exact ot dO
theorem ca {s:List Nat} (h:GC.idxOf? (s.headD 0)=none):mCross s=none:=by
 unfold mCross
 split
 ·rfl
 ·rw[h]
theorem cf {c d:Nat}{r:List Nat} (h:c≠45):mGermanStop (c::d::r)=mCross (c::d::r):=by
 have h1:NUT.idxOf? (c::d::r)=none:=idx_none (by simp[NUT])
 have h2:SIXTH.idxOf? (c::d::r)=none:=idx_none (by simp[SIXTH])
 have h3:GB.idxOf? (c::d::r)=none:=idx_none (by simp[GB,h])
 unfold mGermanStop
 rw[h1,h2,h3]
theorem oF (s:List Nat):mGermanStop (45::s)=(IB.idxOf? s).map fun i=>(7+i,0):=by
 have h1:NUT.idxOf? (45::s)=none:=idx_none (by simp[NUT])
 have h2:SIXTH.idxOf? (45::s)=none:=idx_none (by simp[SIXTH])
 have h3:GB.idxOf? (45::s)=IB.idxOf? s:=by
  have e:GB=IB.map (45::·):=by decide
  rw[e]
  exact jm fun y _=>by
   rw[Bool.eq_iff_iff,beq_iff_eq,beq_iff_eq]
   simp
 unfold mGermanStop
 rw[h1,h2,h3]
 cases IB.idxOf? s with
 | none=>exact ca (show GC.idxOf? 45=none by decide)
 | some i=>rfl
def GReads:Prop:=∀p s S,32∉s->10∉s->Stopped S->match mGermanStop (s.map G) with
 | some x=>∃q,germanAt p (s++S)=.ok (toS x,q,S)
 | none=>(∃e,germanAt p (s++S)=.error e)∨∃b q c v,germanAt p (s++S)=.ok (b,q,c::v)/\c≠32/\c≠10
theorem kM {c:UInt8}{S:Bytes} (n:Nat) (h:Stopped S) (h1:c≠32) (h2:c≠10):again c n S=0:=by
 cases n with
 | zero=>simp[again]
 | succ n =>
  rcases h with rfl | ⟨d,r,rfl,rfl | rfl⟩
  ·simp[again]
  ·rw[again,if_neg (fun q=>h1 q.symm)]
  ·rw[again,if_neg (fun q=>h2 q.symm)]
theorem mm (c:UInt8) (n:Nat) (r:Bytes):again c (n+1) (c::r)=again c n r+1:=by rw[again,if_pos rfl]
theorem kN {c d:UInt8} (n:Nat) (r:Bytes) (h:d≠c):again c (n+1) (d::r)=0:=by rw[again,if_neg h]
theorem kl {p:Nat}{c:UInt8}{r:Bytes}{i:Nat} (hn:¬(49<=c/\c<=53)) (h45:¬c=45) (hcap:capitals.idxOf? c=none) (hc:crossings.idxOf? c=some i) :
  germanAt p (c::r)=.ok (⟨5-i % 5,5 * again c 2 r+i / 5+1⟩,p+1+again c 2 r,r.drop (again c 2 r)):=by
 unfold germanAt
 dsimp only
 rw[if_neg hn,if_neg h45,hcap,hc]
theorem mV:GReads:=by
 intro p s S h32 h10 hS
 cases s with
 | nil =>
  have e:mGermanStop (([]:Bytes).map G)=none:=by decide
  rw[e]
  refine .inl ?_
  rcases hS with rfl | ⟨c,r,rfl,rfl | rfl⟩
  ·exact⟨_,rfl⟩
  ·exact⟨p,by
    show germanAt p (32::r)=_
    unfold germanAt
    dsimp only
    rw[if_neg (by decide),if_neg (by decide),show capitals.idxOf? 32=none by decide +kernel,show crossings.idxOf? 32=none by decide +kernel]⟩
  ·exact⟨p,by
    show germanAt p (10::r)=_
    unfold germanAt
    dsimp only
    rw[if_neg (by decide),if_neg (by decide),show capitals.idxOf? 10=none by decide +kernel,show crossings.idxOf? 10=none by decide +kernel]⟩
 | cons c s =>
  have h32':32∉s:=fun q=>h32 (by simp[q])
  have h10':10∉s:=fun q=>h10 (by simp[q])
  rw[List.cons_append]
  by_cases hn:49<=c/\c<=53
  ·have hg:germanAt p (c::(s++S))=.ok (⟨6-(c.toNat-48),0⟩,p+1,s++S):=by
    unfold germanAt
    dsimp only
    rw[if_pos hn]
   rw[hg]
   cases s with
   | nil =>
    have e:mGermanStop ([c].map G)=fh c:=dG c
    rw[e]
    unfold fh
    rw[if_pos hn]
    exact⟨_,rfl⟩
   | cons d s =>
    have e:mGermanStop ((c::d::s).map G)=none:=by
     have:G c≠45/\GC.idxOf? (G c)=none:=by
      have:∀c:UInt8,49<=c/\c<=53->G c≠45/\GC.idxOf? (G c)=none:=kK (P:=fun c=>49<=c/\c<=53->G c≠45/\GC.idxOf? (G c)=none) (by decide +kernel)
      exact this c hn
     simp only[List.map_cons]
     rw[cf this.1]
     exact ca this.2
    rw[e]
    exact .inr ⟨_,_,d,s++S,rfl,fun q=>h32' (by simp[q]),fun q=>h10' (by simp[q])⟩
  ·by_cases h45:c=45
   ·subst h45
    have hG:G 45=45:=by decide
    simp only[List.map_cons,hG]
    rw[oF]
    have hi:IB.idxOf? (s.map G)=ibU.idxOf? s:=by
     rw[← zt]
     exact mT (by decide +kernel)
    rw[hi]
    have hR:=gx (p+1) s S h32' h10' hS
    have hg:germanAt p (45::(s++S))=match numberAt (p+1) (s++S) with
      | .error e=>.error e
      | .ok (b,q,u)=>.ok (⟨b,0⟩,q,u):=by
     unfold germanAt
     dsimp only
     rw[if_neg hn,if_pos rfl]
     rfl
    rw[hg]
    cases hu:ibU.idxOf? s with
    | none =>
     rw[hu] at hR
     simp only[Option.map_none]
     rcases hR with ⟨e,h⟩ | ⟨b,q,c,v,h,h1,h2⟩
     ·rw[h];exact .inl ⟨_,rfl⟩
     ·rw[h];exact .inr ⟨_,_,c,v,rfl,h1,h2⟩
    | some i =>
     rw[hu] at hR
     obtain⟨q,h⟩:=hR
     rw[h]
     exact⟨q,rfl⟩
   ·cases hcap:capitals.idxOf? c with
    | some f =>
     have hg:germanAt p (c::(s++S))=.ok (⟨6,f⟩,p+1,s++S):=by
      unfold germanAt
      dsimp only
      rw[if_neg hn,if_neg h45,hcap]
     rw[hg]
     cases s with
     | nil =>
      have e:mGermanStop ([c].map G)=fh c:=dG c
      rw[e]
      unfold fh
      rw[if_neg hn,hcap]
      exact⟨_,rfl⟩
     | cons d s =>
      have e:mGermanStop ((c::d::s).map G)=none:=by
       have:G c≠45/\GC.idxOf? (G c)=none:=by
        have:∀c:UInt8,capitals.idxOf? c≠none->G c≠45/\GC.idxOf? (G c)=none:=kK (P:=fun c=>capitals.idxOf? c≠none->G c≠45/\GC.idxOf? (G c)=none) (by decide +kernel)
        exact this c (by rw[hcap];simp)
       simp only[List.map_cons]
       rw[cf this.1]
       exact ca this.2
      rw[e]
      exact .inr ⟨_,_,d,s++S,rfl,fun q=>h32' (by simp[q]),fun q=>h10' (by simp[q])⟩
    | none =>
     cases hc:crossings.idxOf? c with
     | none =>
      have hg:germanAt p (c::(s++S))=.error p:=by
       unfold germanAt
       dsimp only
       rw[if_neg hn,if_neg h45,hcap,hc]
      rw[hg]
      have e:mGermanStop ((c::s).map G)=none:=by
       cases s with
       | nil =>
        have e:mGermanStop ([c].map G)=fh c:=dG c
        rw[e]
        unfold fh
        rw[if_neg hn,hcap,hc]
       | cons d s =>
        simp only[List.map_cons]
        have hG:G c≠45:=fun q=>h45 ((dI (n:=45) (by decide)).mp q)
        rw[cf hG]
        exact ca (by show GC.idxOf? (G c)=none;rw[zM,hc])
      rw[e]
      exact .inl ⟨_,rfl⟩
     | some i =>
      rw[kl hn h45 hcap hc]
      have hmem:c∈crossings:=by
       have:crossings.idxOf? c≠none:=by rw[hc];simp
       rw[ne_eq,List.idxOf?_eq_none_iff] at this
       exact Classical.not_not.mp this
      have hsig:c.toNat∈SIGNS:=dO c hmem
      have hGc:∀d,G d=G c↔d=c:=fun d=>by
       have e:G c=c.toNat:=(pc hsig).mpr rfl
       rw[e]
       exact pc hsig
      have c32:c≠32:=fun q=>h32 (by simp[q])
      have c10:c≠10:=fun q=>h10 (by simp[q])
      have hG45:G c≠45:=fun q=>h45 ((dI (n:=45) (by decide)).mp q)
      have hGC:GC.idxOf? (G c)=some i:=by rw[zM,hc]
      cases s with
      | nil =>
       have e:mGermanStop ([c].map G)=fh c:=dG c
       rw[e]
       unfold fh
       rw[if_neg hn,hcap,hc]
       rw[List.nil_append,kM 2 hS c32 c10]
       exact⟨_,by simp[toS];rfl⟩
      | cons d s =>
       simp only[List.map_cons]
       rw[cf hG45]
       by_cases hd:d=c
       ·subst hd
        rw[List.cons_append,mm]
        cases s with
        | nil =>
         rw[List.nil_append,kM 1 hS c32 c10]
         have e:mCross (G d::G d::List.map G [])=some (5-i % 5,5 * 1+i / 5+1):=by
          unfold mCross
          rw[if_neg (by simp)]
          simp only[List.headD_cons,hGC]
          rfl
         rw[e]
         exact⟨_,rfl⟩
        | cons f s =>
         have h32'':32∉f::s:=fun q=>h32' (by simp only[List.mem_cons] at q ⊢;exact .inr q)
         have h10'':10∉f::s:=fun q=>h10' (by simp only[List.mem_cons] at q ⊢;exact .inr q)
         rw[List.cons_append]
         by_cases hf:f=d
         ·subst hf
          rw[mm]
          cases s with
          | nil =>
           have e:mCross (G f::G f::List.map G [f])=some (5-i % 5,5 * 2+i / 5+1):=by
            unfold mCross
            rw[if_neg (by simp[List.replicate])]
            simp only[List.headD_cons,hGC]
            rfl
           rw[e]
           exact⟨_,rfl⟩
          | cons g s =>
           have e:mCross (G f::G f::List.map G (f::g::s))=none:=by
            unfold mCross
            rw[if_pos (by simp)]
           rw[e]
           rw[show again f 0 (g::s++S)=0 by simp[again]]
           exact .inr ⟨_,_,g,s++S,rfl,fun q=>h32'' (by simp[q]),fun q=>h10'' (by simp[q])⟩
         ·rw[kN _ _ hf]
          have e:mCross (G d::G d::List.map G (f::s))=none:=by
           unfold mCross
           rw[if_pos (.inr (.inr (by
            intro q
            simp[List.replicate_succ] at q
            exact hf ((hGc f).mp q.1))))]
          rw[e]
          exact .inr ⟨_,_,f,s++S,rfl,fun q=>h32'' (by simp[q]),fun q=>h10'' (by simp[q])⟩
       ·rw[List.cons_append,kN _ _ hd]
        have e:mCross (G c::G d::List.map G s)=none:=by
         unfold mCross
         rw[if_pos (.inr (.inr (by
          intro q
          simp[List.replicate_succ] at q
          exact hd ((hGc d).mp q.1))))]
        rw[e]
        exact .inr ⟨_,_,d,s++S,rfl,fun q=>h32' (by simp[q]),fun q=>h10' (by simp[q])⟩
theorem gY {s:List Nat}{x:St} (h:mGermanStop s=some x):1<=x.1:=by
 unfold mGermanStop at h
 cases h1:NUT.idxOf? s with
 | some i=>rw[h1] at h;cases h;simp
 | none =>
  rw[h1] at h
  cases h2:SIXTH.idxOf? s with
  | some i=>rw[h2] at h;cases h;simp
  | none =>
   rw[h2] at h
   cases h3:GB.idxOf? s with
   | some i=>rw[h3] at h;cases h;simp;omega
   | none =>
    rw[h3] at h
    simp only[mCross] at h
    split at h
    ·cases h
    ·split at h
     ·cases h
     ·cases h;simp;omega
theorem cW:∀{ts:List (List Nat)}{l:List St},mGermanList ts=some l->∀x∈l,1<=x.1
 | [],l,h=>by
  simp[mGermanList] at h
  subst h
  simp
 | s::ts,l,h=>by
  unfold mGermanList at h
  cases hi:mGermanStop s with
  | none=>rw[hi] at h;cases h
  | some i =>
   rw[hi] at h
   simp only[Option.map_eq_some_iff] at h
   obtain⟨l',h',rfl⟩:=h
   intro x hx
   rcases List.mem_cons.mp hx with rfl | hx
   ·exact gY hi
   ·exact cW h' x hx
theorem mE (ts:List (List Nat)):risen (mGermanList ts)=chained 0 (mGermanList ts):=by
 cases h:mGermanList ts with
 | none=>rfl
 | some l =>
  simp only[risen,chained]
  rw[jE (cW h)]
theorem je {f last p e:Nat}{t:Bytes} (h:germanAt p t=.error e):∃e,germanStops f last p t=.error e:=by
 cases f with
 | zero=>exact⟨_,by unfold germanStops;rfl⟩
 | succ f =>
  refine⟨e,?_⟩
  unfold germanStops
  rw[h]
theorem kj:∀(ts:List Bytes) (s:Bytes) (f last p:Nat) (t:Option Bytes),(∀x∈s::ts,32∉x/\10∉x)->(s++(ts.flatMap (32::·)++tl t)).length<f ->
  Res (germanStops f last p (s++(ts.flatMap (32::·)++tl t))) (stp (chained last (mGermanList ((s::ts).map (List.map G))))) t
 | ts,s,f+1,last,p,t,hts,hf=>by
  have hs1:=hts s (by simp)
  have hR:=mV p s (ts.flatMap (32::·)++tl t) hs1.1 hs1.2 e8
  simp only[List.map_cons,mGermanList]
  have bad:∀x:Rd (List Stop),(∃e,x=.error e)->Res x (stp (chained last none)) t:=fun x h=>by
   cases t <;> exact h
  cases hm:mGermanStop (s.map G) with
  | none =>
   rw[hm] at hR
   refine bad _ ?_
   rcases hR with ⟨e,h⟩ | ⟨b,q,c,v,h,h1,h2⟩
   ·exact je h
   ·unfold germanStops
    rw[h]
    dsimp only
    by_cases hb:b.course<=last
    ·rw[if_pos hb];exact⟨_,rfl⟩
    ·rw[if_neg hb,if_neg (show ¬c=END from h2),if_pos (show c≠BLANK from h1)];exact⟨_,rfl⟩
  | some x =>
   rw[hm] at hR
   obtain⟨q,h⟩:=hR
   have hcx:chained last ((mGermanList (ts.map (List.map G))).map (x::·))=if last<x.1 then (chained x.1 (mGermanList (ts.map (List.map G)))).map (x::·) else none:=by
    cases mGermanList (ts.map (List.map G)) with
    | none=>simp[chained]
    | some l =>
     by_cases hx:last<x.1
     ·by_cases hl:chain x.1 l=true
      ·simp[chained,chain,hx,hl]
      ·simp[chained,chain,hx,hl]
     ·simp[chained,chain,hx]
   simp only[]
   rw[hcx]
   unfold germanStops
   rw[h]
   dsimp only
   by_cases hb:(toS x).course<=last
   ·rw[if_pos hb,if_neg (show ¬last<x.1 from Nat.not_lt.mpr hb)]
    cases t <;> exact⟨_,rfl⟩
   ·rw[if_neg hb,if_pos (show last<x.1 from Nat.lt_of_not_le hb)]
    cases ts with
    | nil =>
     cases t with
     | none=>exact⟨_,rfl⟩
     | some r =>
      show Res (if (10:UInt8)=END then _ else _) _ _
      rw[if_pos (show (10:UInt8)=END by decide)]
      exact⟨q+1,rfl⟩
    | cons s2 ts =>
     have e0:(s2::ts).flatMap ((32:UInt8)::·)++tl t=32::(s2++(ts.flatMap (32::·)++tl t)):=by simp[List.flatMap_cons,List.append_assoc]
     rw[e0]
     dsimp only
     rw[if_neg (show ¬(32:UInt8)=END by decide),if_neg (show ¬(32:UInt8)≠BLANK by decide)]
     have hf':(s2++(ts.flatMap (32::·)++tl t)).length<f:=by
      rw[e0] at hf
      simp only[List.length_cons,List.length_append] at hf ⊢
      omega
     have ih:=kj ts s2 f x.1 (q+1) t (fun y hy=>hts y (by simp only[List.mem_cons] at hy ⊢;exact .inr hy)) hf'
     cases hc:chained x.1 (mGermanList ((s2::ts).map (List.map G))) with
     | none =>
      rw[hc] at ih
      have:∃e,germanStops f x.1 (q+1) (s2++(ts.flatMap (32::·)++tl t))=.error e:=by cases t <;> exact ih
      obtain⟨e,h3⟩:=this
      have h3':germanStops f (toS x).course (q+1) (s2++(ts.flatMap (32::·)++tl t))=.error e:=h3
      rw[h3']
      cases t <;> exact⟨_,rfl⟩
     | some l =>
      rw[hc] at ih
      cases t with
      | none =>
       obtain⟨e,h3⟩:=ih
       have h3':germanStops f (toS x).course (q+1) (s2++(ts.flatMap (32::·)++tl none))=.error e:=h3
       rw[h3'];exact⟨_,rfl⟩
      | some r =>
       obtain⟨z,h3⟩:=ih
       have h3':germanStops f (toS x).course (q+1) (s2++(ts.flatMap (32::·)++tl (some r)))=.ok (l.map toS,z,r):=h3
       rw[h3'];exact⟨z,rfl⟩
theorem pV (p:Nat) (row:Bytes) (t:Option Bytes) (h10:10∉row):Res (stopsAt .german p (row++tl t)) (stp (mStops 2 (row.map G))) t:=by
 have hst:mStops 2 (row.map G)=risen (mGerman (row.map G)):=by
  unfold mStops
  rw[if_neg (by decide),if_neg (by decide)]
 rw[hst]
 have bad:∀x:Rd (List Stop),(∃e,x=.error e)->Res x (stp none) t:=fun x h=>by
  cases t <;> exact h
 have main:(∀r,row++tl t≠46::r)->Res (stopsAt .german p (row++tl t)) (stp (risen (mGerman (row.map G)))) t:=by
  intro hno
  have e1:stopsAt .german p (row++tl t)=germanStops ((row++tl t).length+1) 0 p (row++tl t):=by
   unfold stopsAt
   dsimp only
   split
   ·rename_i r e;exact absurd e (hno r)
   ·rfl
  have e2:mGerman (row.map G)=mGermanList (spl 32 (row.map G)):=by
   unfold mGerman
   rw[if_neg]
   intro q
   cases row with
   | nil=>simp at q
   | cons c r =>
    simp at q
    have:c=46:=(dI (n:=46) (by decide)).mp q.1
    exact hno (r++tl t) (by rw[this];rfl)
  rw[e1,e2,mE]
  obtain⟨a,ps,f1,f2,h1,h2⟩:=cw (32:UInt8) row
  have eG:spl 32 (row.map G)=(spl 32 row).map (List.map G):=qr (fun c=>dI (n:=32) (by decide)) row
  rw[eG,f1]
  have hts:∀x∈a::ps,32∉x/\10∉x:=by
   intro x hx
   rcases List.mem_cons.mp hx with rfl | hx
   ·exact⟨h1,fun q=>h10 (by rw[f2];simp[q])⟩
   ·exact⟨h2 x hx,fun q=>h10 (by rw[f2];simp only[List.mem_append,List.mem_flatMap];exact .inr ⟨x,hx,by simp[q]⟩)⟩
  have e3:row++tl t=a++(ps.flatMap (32::·)++tl t):=by rw[← List.append_assoc,← f2]
  rw[e3]
  exact kj ps a _ 0 p t hts (Nat.lt_succ_self _)
 cases row with
 | nil =>
  refine main fun r e=>?_
  cases t with
  | none=>cases e
  | some u=>injection e with e1 _;exact absurd e1 (by decide)
 | cons c row =>
  by_cases hc:c=46
  ·subst hc
   have e1:stopsAt .german p (46::row++tl t)=match want [END] (p+1) (row++tl t) with
     | .error e=>.error e
     | .ok (_,q,u)=>.ok ([],q,u):=rfl
   rw[e1]
   have hG:G 46=46:=by decide
   cases row with
   | nil =>
    have e2:stp (risen (mGerman ([46].map G)))=some []:=by decide
    rw[e2]
    cases t with
    | none=>exact⟨_,rfl⟩
    | some r=>exact⟨p+2,rfl⟩
   | cons d row =>
    have hd:d≠10:=fun q=>h10 (by simp[q])
    have e2:risen (mGerman ((46::d::row).map G))=none:=by
     have e3:mGerman ((46::d::row).map G)=mGermanList (spl 32 ((46::d::row).map G)):=by
      unfold mGerman
      rw[if_neg (by simp)]
     rw[e3]
     have e4:∃a l,spl 32 ((46::d::row).map G)=(46::a)::l:=by
      simp only[List.map_cons,hG]
      unfold spl
      rw[if_neg (by decide)]
      cases h:spl 32 (G d::row.map G) with
      | nil=>exact absurd h (spl_ne _ _)
      | cons a l=>exact⟨a,l,rfl⟩
     obtain⟨a,l,e4⟩:=e4
     rw[e4]
     have e5:mGermanStop (46::a)=none:=by
      cases a with
      | nil=>decide
      | cons b a=>rw[cf (by decide)];exact ca (show GC.idxOf? 46=none by decide)
     simp[mGermanList,e5,risen]
    rw[e2]
    refine bad _ ⟨p+1,?_⟩
    have:want [END] (p+1) (d::row++tl t)=.error (p+1):=by
     show (if d=END then _ else _)=_
     rw[if_neg (show ¬d=END from hd)]
    rw[this]
  ·exact main fun r e=>by injection e with e1 _;exact hc e1
end LM
end
section
namespace LM
open LuteTab
def kn:Kind->Nat
 | .french=>0
 | .italian=>1
 | .german=>2
theorem rQ (k:Kind) (p:Nat) (row:Bytes) (t:Option Bytes) (h10:10∉row):Res (stopsAt k p (row++tl t)) (stp (mStops (kn k) (row.map G))) t:=by
 cases k
 ·exact pW p row t h10
 ·exact or p row t h10
 ·exact pV p row t h10
def L7:List UInt8:=[120,116,115,101,113,104,119]
theorem iZ {s:List Nat}:∀{l:List (List Nat×Nat)},(∀e∈l,e.1≠s)->l.lookup s=none
 | [],_=>rfl
 | (a,b)::l,h=>by
  have h1:¬s=a:=fun q=>h (a,b) (by simp) q.symm
  have h2:(s==a)=false:=by simp[h1]
  rw[List.lookup_cons,h2]
  exact iZ fun e he=>h e (by simp[he])
theorem w9:∀c:UInt8,LEN.lookup [G c]=(L7.idxOf? c).map (2 ^ ·):=kK (P:=fun c=>LEN.lookup [G c]=(L7.idxOf? c).map (2 ^ ·)) (by decide +kernel)
theorem w8:∀c:UInt8,LEN.lookup [G c,46]=(L7.idxOf? c).bind fun i=>if i=0 then none else some (2 ^ i+2 ^ (i-1)):=kK (P:=fun c=>LEN.lookup [G c,46]=(L7.idxOf? c).bind fun i=>if i=0 then none else some (2 ^ i+2 ^ (i-1))) (by decide +kernel)
theorem iy {c d:Nat}{r:List Nat} (h:d≠46∨r≠[]):LEN.lookup (c::d::r)=none:=iZ fun e he q=>by
  simp only[LEN,List.mem_cons,List.not_mem_nil,or_false] at he
  rcases he with rfl | rfl | rfl | rfl | rfl | rfl | rfl | rfl | rfl | rfl | rfl | rfl | rfl
  all_goals first
    | (injection q with _ q;injection q;done)
    | (injection q with _ q;injection q with q1 q2;rcases h with h | h
       · exact h q1.symm
       · exact h q2.symm)
theorem bj {p:Nat}{c:UInt8}{r:Bytes} (h:L7.idxOf? c=none):lengthAt p (c::r)=.error p:=by
 unfold lengthAt
 dsimp only
 rw[show ([(120:UInt8),116,115,101,113,104,119]).idxOf? c=none from h]
theorem bG {p:Nat}{c:UInt8}{r:Bytes}{i:Nat} (h:L7.idxOf? c=some i):lengthAt p (c::r)=match r with
   | 46::32::u=>if i=0 then .error (p+1) else .ok (2 ^ i+2 ^ (i-1),p+3,u)
   | 46::_=>if i=0 then .error (p+1) else .error (p+2)
   | 32::u=>.ok (2 ^ i,p+2,u)
   | _=>.error (p+1):=by
 conv=>lhs;unfold lengthAt
 dsimp only
 rw[show ([(120:UInt8),116,115,101,113,104,119]).idxOf? c=some i from h]
 rfl
theorem pT (p:Nat) (s w:Bytes) (h32:32∉s):match LEN.lookup (s.map G) with
  | some n=>∃q,lengthAt p (s++32::w)=.ok (n,q,w)
  | none=>∃e,lengthAt p (s++32::w)=.error e:=by
 match s,h32 with
 | [],_ =>
  rw[show LEN.lookup (([]:Bytes).map G)=none by decide]
  exact⟨p,bj (by decide)⟩
 | [c],_ =>
  have e:=w9 c
  simp only[List.map_cons,List.map_nil,e]
  cases h:L7.idxOf? c with
  | none=>exact⟨p,bj h⟩
  | some i =>
   refine⟨p+2,?_⟩
   show lengthAt p (c::32::w)=_
   rw[bG h]
   rfl
 | c::d::r,h32 =>
  have hd32:d≠32:=fun q=>h32 (by simp[q])
  by_cases hd:d=46
  ·subst hd
   have hG:G 46=46:=by decide
   cases r with
   | nil =>
    have e:=w8 c
    simp only[List.map_cons,List.map_nil,hG,e]
    cases h:L7.idxOf? c with
    | none=>exact⟨p,bj h⟩
    | some i =>
     show match (if i=0 then none else some (2 ^ i+2 ^ (i-1))) with
      | some n=>∃q,lengthAt p (c::46::32::w)=.ok (n,q,w)
      | none=>∃e,lengthAt p (c::46::32::w)=.error e
     rw[bG h]
     by_cases hi:i=0
     ·simp only[hi,if_true]
      exact⟨_,rfl⟩
     ·simp only[hi,if_false]
      exact⟨_,rfl⟩
   | cons f r =>
    have hf32:f≠32:=fun q=>h32 (by simp[q])
    have e:LEN.lookup ((c::46::f::r).map G)=none:=iy (.inr (by simp))
    rw[e]
    show ∃e,lengthAt p (c::46::f::(r++32::w))=.error e
    cases h:L7.idxOf? c with
    | none=>exact⟨p,bj h⟩
    | some i =>
     rw[bG h]
     split
     ·rename_i u q;injection q with _ q;injection q with q _;exact absurd q hf32
     ·by_cases hi:i=0
      ·rw[if_pos hi];exact⟨_,rfl⟩
      ·rw[if_neg hi];exact⟨_,rfl⟩
     ·rename_i u q;injection q with q _;exact absurd q (by decide)
     ·exact⟨_,rfl⟩
  ·have hGd:G d≠46:=fun q=>hd ((dI (n:=46) (by decide)).mp q)
   have e:LEN.lookup ((c::d::r).map G)=none:=iy (.inl hGd)
   rw[e]
   show ∃e,lengthAt p (c::d::(r++32::w))=.error e
   cases h:L7.idxOf? c with
   | none=>exact⟨p,bj h⟩
   | some i =>
    rw[bG h]
    split
    ·rename_i u q;injection q with q _;exact absurd q hd
    ·rename_i u q;injection q with q _;exact absurd q hd
    ·rename_i u q;injection q with q _;exact absurd q hd32
    ·exact⟨_,rfl⟩
theorem om (p:Nat) (s:Bytes) (t:Option Bytes) (h32:32∉s):∃e,lengthAt p (s++tl t)=.error e:=by
 cases s with
 | nil =>
  cases t with
  | none=>exact⟨p,rfl⟩
  | some r=>exact⟨p,bj (by decide)⟩
 | cons c s =>
  rw[List.cons_append]
  cases h:L7.idxOf? c with
  | none=>exact⟨p,bj h⟩
  | some i =>
   rw[bG h]
   have h32':32∉s:=fun q=>h32 (by simp[q])
   have tl32:∀u,tl t≠32::u:=fun u q=>by
    cases t with
    | none=>cases q
    | some r=>injection q with q _;exact absurd q (by decide)
   have tl46:∀u,tl t≠46::u:=fun u q=>by
    cases t with
    | none=>cases q
    | some r=>injection q with q _;exact absurd q (by decide)
   split
   ·rename_i u q
    exfalso
    cases s with
    | nil=>exact tl46 _ q
    | cons a s =>
     injection q with _ q
     cases s with
     | nil=>exact tl32 _ q
     | cons b s=>injection q with q _;exact h32' (by simp[q])
   ·by_cases hi:i=0
    ·rw[if_pos hi];exact⟨_,rfl⟩
    ·rw[if_neg hi];exact⟨_,rfl⟩
   ·rename_i u q
    exfalso
    cases s with
    | nil=>exact tl32 _ q
    | cons a s=>injection q with q _;exact h32' (by simp[q])
   ·exact⟨_,rfl⟩
theorem rg {r:List Nat}:∀{s:List Nat},32∉s->(s++32::r).idxOf? 32=some s.length
 | [],_=>by simp[List.idxOf?_cons]
 | c::s,h=>by
  have ih:=rg (r:=r) (s:=s) fun q=>h (by simp[q])
  have hc:(c==32)=false:=by
   simp
   exact fun q=>h (by simp[q])
  simp[List.idxOf?_cons,hc,ih]
theorem iX {k last:Nat}{s r:List Nat} (h:32∉s):mMoment k (s++32::r) last=match mLength s last with
  | none=>none
  | some n=>(mStops k r).map fun l=>(n,l):=by
 unfold mMoment
 rw[rg h]
 have e1:(s++32::r).take s.length=s:=by simp
 have e2:(s++32::r).drop (s.length+1)=r:=by
  rw[show s++32::r=(s++[32])++r by simp,List.drop_append]
  simp
 simp only[e1,e2]
 all_goals rfl
theorem gy {k last:Nat}{s:List Nat} (h:32∉s):mMoment k s last=none:=by
 unfold mMoment
 rw[idx_none h]
theorem G32_mem {s:Bytes}:32∈s.map G↔32∈s:=by
 simp only[List.mem_map]
 constructor
 ·rintro⟨c,hc,e⟩
  have:=(dI (n:=32) (by decide)).mp e
  subst this
  exact hc
 ·intro h
  exact⟨32,h,by decide⟩
def toL:Ln->Line
 | none=>.bar
 | some (n,l)=>.moment n (l.map toS)
def be (k:Kind) (last p:Nat):Bytes->Rd (Nat×List Stop)
 | []=>.error p
 | c::r=>if c=BLANK then (if last=0 then .error p else match stopsAt k (p+1) r with
   | .error e=>.error e
   | .ok (l,q,u)=>.ok ((last,l),q,u))
  else match lengthAt p (c::r) with
   | .error e=>.error e
   | .ok (n,q,u)=>if n=last then .error p else match stopsAt k q u with
    | .error e=>.error e
    | .ok (l,z,v)=>.ok ((n,l),z,v)
theorem d6 {k:Kind}{f last many p:Nat}{c:UInt8}{r:Bytes} (hm:¬LINES<=many) (hc:c≠124):linesAt k (f+1) last many p (c::r)=match be k last p (c::r) with
  | .error e=>.error e
  | .ok (m,q,u)=>(linesAt k f m.1 (many+1) q u).map fun (x:Piece)=>.moment m.1 m.2::x:=by
 conv=>lhs;unfold linesAt
 unfold be
 dsimp only
 rw[if_neg hm,if_neg hc]
 by_cases hb:c=BLANK
 ·rw[if_pos hb,if_pos hb]
  by_cases hl:last=0
  ·rw[if_pos hl,if_pos hl]
  ·rw[if_neg hl,if_neg hl]
   cases stopsAt k (p+1) r with
   | error e=>rfl
   | ok x=>rfl
 ·rw[if_neg hb,if_neg hb]
  cases lengthAt p (c::r) with
  | error e=>rfl
  | ok x =>
   obtain⟨n,q,u⟩:=x
   dsimp only
   by_cases hn:n=last
   ·rw[if_pos hn,if_pos hn]
   ·rw[if_neg hn,if_neg hn]
    cases stopsAt k q u with
    | error e=>rfl
    | ok x=>rfl
def toM (m:Nat×List St):Nat×List Stop:=(m.1,m.2.map toS)
theorem jR (k:Kind) (last p:Nat) (row:Bytes) (t:Option Bytes) (h10:10∉row):Res (be k last p (row++tl t)) ((mMoment (kn k) (row.map G) last).map toM) t:=by
 have bad:∀x:Rd (Nat×List Stop),(∃e,x=.error e)->Res x none t:=fun x h=>by
  cases t <;> exact h
 have badE:∀{o:Option (Nat×List St)} (x:Rd (Nat×List Stop)),o=none->(∃e,x=.error e)->Res x (o.map toM) t:=fun x ho h=>by
  rw[ho];exact bad x h
 have stp_case:∀(n q:Nat) (r:Bytes) (x:Rd (Nat×List Stop)),10∉r->(x=match stopsAt k q (r++tl t) with
   | .error e=>.error e
   | .ok (l,z,v)=>.ok ((n,l),z,v))->Res x (((mStops (kn k) (r.map G)).map fun l=>(n,l)).map toM) t:=by
  intro n q r x hr hx
  have h:=rQ k q r t hr
  cases hs:mStops (kn k) (r.map G) with
  | none =>
   rw[hs] at h
   have:∃e,stopsAt k q (r++tl t)=.error e:=by cases t <;> exact h
   obtain⟨e,h3⟩:=this
   rw[h3] at hx
   exact badE x rfl ⟨_,hx⟩
  | some l =>
   rw[hs] at h
   cases t with
   | none =>
    obtain⟨e,h3⟩:=h
    rw[h3] at hx
    exact⟨_,hx⟩
   | some u =>
    obtain⟨z,h3⟩:=h
    rw[h3] at hx
    exact⟨z,hx⟩
 rcases cut_ex (32:UInt8) row with h32 | ⟨s,r,rfl,h32⟩
 ·have hm:mMoment (kn k) (row.map G) last=none:=gy (fun q=>h32 (G32_mem.mp q))
  refine badE _ hm ?_
  obtain⟨e,h⟩:=om p row t h32
  cases hst:row++tl t with
  | nil=>exact⟨p,rfl⟩
  | cons c u =>
   rw[hst] at h
   have hc:c≠BLANK:=by
    intro q
    cases row with
    | nil =>
     cases t with
     | none=>cases hst
     | some z=>injection hst with e1 _;rw[q] at e1;exact absurd e1 (by decide)
    | cons d row=>injection hst with e1 _;exact h32 (by rw[e1,q];exact List.mem_cons_self)
   unfold be
   dsimp only
   rw[if_neg hc,h]
   exact⟨_,rfl⟩
 ·have h10r:10∉r:=fun q=>h10 (by simp[q])
  have hG:G 32=32:=by decide
  have e1:(s++32::r).map G=s.map G++32::r.map G:=by simp[hG]
  rw[e1,iX (fun q=>h32 (G32_mem.mp q))]
  have e2:s++32::r++tl t=s++32::(r++tl t):=by simp
  rw[e2]
  cases s with
  | nil =>
   have hx:be k last p (32::(r++tl t))=if last=0 then .error p else match stopsAt k (p+1) (r++tl t) with
     | .error e=>.error e
     | .ok (l,q,u)=>.ok ((last,l),q,u):=by
    unfold be
    dsimp only
    rw[if_pos (show (32:UInt8)=BLANK from rfl)]
   show Res (be k last p (32::(r++tl t))) _ t
   simp only[List.map_nil,mLength,if_true]
   by_cases hl:last=0
   ·rw[if_pos hl] at hx ⊢
    exact badE _ rfl ⟨_,hx⟩
   ·rw[if_neg hl] at hx ⊢
    exact stp_case last (p+1) r _ h10r hx
  | cons c s =>
   have hc:c≠BLANK:=fun q=>h32 (by rw[q];exact List.mem_cons_self)
   have hlr:=pT p (c::s) (r++tl t) h32
   have hx:be k last p (c::(s++32::(r++tl t)))=match lengthAt p (c::(s++32::(r++tl t))) with
     | .error e=>.error e
     | .ok (n,q,u)=>if n=last then .error p else match stopsAt k q u with
      | .error e=>.error e
      | .ok (l,z,v)=>.ok ((n,l),z,v):=by
    conv=>lhs;unfold be
    dsimp only
    rw[if_neg hc]
   show Res (be k last p (c::(s++32::(r++tl t)))) _ t
   have hne:¬(c::s).map G=[]:=by simp
   simp only[mLength,if_neg hne]
   cases hL:LEN.lookup ((c::s).map G) with
   | none =>
    rw[hL] at hlr
    obtain⟨e,h⟩:=hlr
    rw[show lengthAt p (c::(s++32::(r++tl t)))=.error e from h] at hx
    exact badE _ rfl ⟨_,hx⟩
   | some n =>
    rw[hL] at hlr
    obtain⟨q,h⟩:=hlr
    rw[show lengthAt p (c::(s++32::(r++tl t)))=.ok (n,q,r++tl t) from h] at hx
    dsimp only at hx ⊢
    by_cases hn:n=last
    ·rw[if_pos hn] at hx
     simp only[hn,if_true]
     exact badE _ rfl ⟨_,hx⟩
    ·rw[if_neg hn] at hx
     simp only[if_neg hn]
     exact stp_case n q r _ h10r hx
theorem oo {d:Nat}{r:List Nat}:LEN.lookup (124::r)=none:=by
 cases r with
 | nil=>decide
 | cons d r =>
  by_cases h:d≠46∨r≠[]
  ·exact iy h
  ·have h1:d=46:=Classical.not_not.mp fun q=>h (.inl q)
   have h2:r=[]:=Classical.not_not.mp fun q=>h (.inr q)
   subst h1 h2
   decide
theorem pP {k last:Nat}{r:List Nat}:mMoment k (124::r) last=none:=by
 rcases cut_ex 32 (124::r) with h | ⟨s,u,e,h⟩
 ·exact gy h
 ·rw[e,iX h]
  cases s with
  | nil=>injection e with e1 _;exact absurd e1 (by decide)
  | cons c s =>
   injection e with e1 e2
   subst e1
   simp only[mLength]
   rw[if_neg (by simp),oo (d:=0)]
theorem m7 {p:Nat}{d:UInt8}{r:Bytes} (h:d≠10):want [END] p (d::r)=.error p:=by
 show (if d=END then _ else _)=_
 rw[if_neg (show ¬d=END from h)]
theorem rH {p:Nat}{r:Bytes}:want [END] p (10::r)=.ok ((),p+1,r):=by
 show (if (10:UInt8)=END then _ else _)=_
 rw[if_pos (show (10:UInt8)=END from rfl)]
 rfl
theorem lI (k:Kind):∀(rows:List Bytes) (z:Bytes) (f last many p:Nat),(∀r∈rows,10∉r)->10∉z->many<=512->(rows.flatMap (·++[10])++z).length<f ->
  match (if z=[]/\many+rows.length<=512 then mLines (kn k) last (rows.map (List.map G)) else none) with
  | some l=>linesAt k f last many p (rows.flatMap (·++[10])++z)=.ok (l.map toL)
  | none=>∃e,linesAt k f last many p (rows.flatMap (·++[10])++z)=.error e
 | [],[],f+1,last,many,p,_,_,hm,_=>by
  rw[if_pos ⟨rfl,by simpa using hm⟩]
  show match mLines (kn k) last [] with
   | some l=>linesAt k (f+1) last many p []=.ok (l.map toL)
   | none=>∃e,linesAt k (f+1) last many p []=.error e
  unfold mLines
  by_cases hl:last=0
  ·rw[if_pos hl]
   exact⟨p,by unfold linesAt;rw[if_pos hl]⟩
  ·rw[if_neg hl]
   show linesAt k (f+1) last many p []=_
   unfold linesAt
   rw[if_neg hl]
   rfl
 | [],c::z,f+1,last,many,p,_,hz,hm,_=>by
  rw[if_neg (by simp)]
  show ∃e,linesAt k (f+1) last many p (c::z)=.error e
  by_cases hmany:LINES<=many
  ·exact⟨p,by unfold linesAt;rw[if_pos hmany]⟩
  ·by_cases hc:c=124
   ·subst hc
    unfold linesAt
    rw[if_neg hmany,if_pos rfl]
    cases z with
    | nil=>exact⟨_,rfl⟩
    | cons d z =>
     rw[m7 (fun q=>hz (by simp[q]))]
     exact⟨_,rfl⟩
   ·rw[d6 hmany hc]
    have h:=jR k last p (c::z) none hz
    have:∃e,be k last p (c::z)=.error e:=by
     have e0:c::z++tl none=c::z:=by simp[tl]
     rw[e0] at h
     cases hh:(mMoment (kn k) ((c::z).map G) last).map toM with
     | none=>rw[hh] at h;exact h
     | some m=>rw[hh] at h;exact h
    obtain⟨e,h3⟩:=this
    rw[h3]
    exact⟨_,rfl⟩
 | row::rows,z,f+1,last,many,p,hr,hz,hm,hf=>by
  have hrow:10∉row:=hr row (by simp)
  have hrows:∀r∈rows,10∉r:=fun r q=>hr r (by simp[q])
  have e0:(row::rows).flatMap (·++[10])++z=row++10::(rows.flatMap (·++[10])++z):=by simp[List.flatMap_cons,List.append_assoc]
  rw[e0]
  rw[e0] at hf
  have hf':(rows.flatMap (·++[10])++z).length<f:=by
   simp only[List.length_append,List.length_cons] at hf ⊢
   omega
  have estart:∃c u,row++10::(rows.flatMap (·++[10])++z)=c::u:=by
   cases row with
   | nil=>exact⟨_,_,rfl⟩
   | cons c u=>exact⟨_,_,rfl⟩
  by_cases hmany:LINES<=many
  ·have hno:¬(z=[]/\many+(row::rows).length<=512):=by
    rintro⟨_,q⟩
    simp only[List.length_cons] at q
    have:512<=many:=hmany
    omega
   rw[if_neg hno]
   obtain⟨c,u,e⟩:=estart
   rw[e]
   exact⟨p,by unfold linesAt;rw[if_pos hmany]⟩
  ·have hm':many+1<=512:=by
    have:¬512<=many:=hmany
    omega
   have ih:=fun last' q=>lI k rows z f last' (many+1) q hrows hz hm' hf'
   have hcond:(z=[]/\many+(row::rows).length<=512)↔(z=[]/\many+1+rows.length<=512):=by
    simp only[List.length_cons]
    constructor
    ·rintro⟨a,b⟩;exact⟨a,by omega⟩
    ·rintro⟨a,b⟩;exact⟨a,by omega⟩
   by_cases hbar:row=[124]
   ·subst hbar
    have e1:linesAt k (f+1) last many p ([124]++10::(rows.flatMap (·++[10])++z))=(linesAt k f last (many+1) (p+1+1) (rows.flatMap (·++[10])++z)).map fun (x:Piece)=>.bar::x:=by
     show linesAt k (f+1) last many p (124::10::(rows.flatMap (·++[10])++z))=_
     conv=>lhs;unfold linesAt
     rw[if_neg hmany,if_pos rfl,rH]
    rw[e1]
    have ih1:=ih last (p+1+1)
    by_cases hcd:z=[]/\many+1+rows.length<=512
    ·rw[if_pos hcd] at ih1
     rw[if_pos (hcond.mpr hcd)]
     have e2:mLines (kn k) last (([124]::rows).map (List.map G))=(mLines (kn k) last (rows.map (List.map G))).map (none::·):=by
      show mLines (kn k) last ([G 124]::rows.map (List.map G))=_
      rw[show G 124=124 by decide]
      conv=>lhs;unfold mLines
      rw[if_pos rfl]
     rw[e2]
     cases hml:mLines (kn k) last (rows.map (List.map G)) with
     | none =>
      rw[hml] at ih1
      obtain⟨e,h3⟩:=ih1
      rw[h3]
      exact⟨_,rfl⟩
     | some l =>
      rw[hml] at ih1
      have ih2:linesAt k f last (many+1) (p+1+1) (rows.flatMap (·++[10])++z)=.ok (l.map toL):=ih1
      rw[ih2]
      rfl
    ·rw[if_neg hcd] at ih1
     rw[if_neg (fun q=>hcd (hcond.mp q))]
     obtain⟨e,h3⟩:=ih1
     rw[h3]
     exact⟨_,rfl⟩
   ·
    have hne:¬row.map G=[124]:=by
     intro q
     have:=(jT (s:=row) (e:=[124]) (by decide)).mp q
     exact hbar this
    have hmom:=jR k last p row (some (rows.flatMap (·++[10])++z)) hrow
    have e2:mLines (kn k) last ((row::rows).map (List.map G))=match mMoment (kn k) (row.map G) last with
      | none=>none
      | some m=>(mLines (kn k) m.1 (rows.map (List.map G))).map (some m::·):=by
     show mLines (kn k) last (row.map G::rows.map (List.map G))=_
     conv=>lhs;unfold mLines
     rw[if_neg hne]
     all_goals rfl
    by_cases h124:∃r,row=124::r
    ·obtain⟨r,rfl⟩:=h124
     have hd:r≠[]:=fun q=>hbar (by rw[q])
     have e3:mMoment (kn k) ((124::r).map G) last=none:=by
      simp only[List.map_cons]
      rw[show G 124=124 by decide]
      exact pP
     rw[e2,e3]
     have:∃e,linesAt k (f+1) last many p (124::r++10::(rows.flatMap (·++[10])++z))=.error e:=by
      cases r with
      | nil=>exact absurd rfl hd
      | cons d r =>
       show ∃e,linesAt k (f+1) last many p (124::d::(r++10::(rows.flatMap (·++[10])++z)))=.error e
       unfold linesAt
       rw[if_neg hmany,if_pos rfl,m7 (fun q=>hrow (by simp[q]))]
       exact⟨_,rfl⟩
     split
     ·rename_i l hl
      split at hl <;> cases hl
     ·exact this
    ·obtain⟨c,u,e⟩:=estart
     have hc:c≠124:=by
      intro q
      cases row with
      | nil=>injection e with e1 _;rw[q] at e1;exact absurd e1 (by decide)
      | cons d row=>injection e with e1 _;exact h124 ⟨row,by rw[e1,q]⟩
     have e3:linesAt k (f+1) last many p (row++10::(rows.flatMap (·++[10])++z))=match be k last p (row++10::(rows.flatMap (·++[10])++z)) with
       | .error e=>.error e
       | .ok (m,q,u)=>(linesAt k f m.1 (many+1) q u).map fun (x:Piece)=>.moment m.1 m.2::x:=by
      rw[e]
      exact d6 hmany hc
     rw[e3,e2]
     cases hmm:mMoment (kn k) (row.map G) last with
     | none =>
      rw[hmm] at hmom
      obtain⟨e,h3⟩:=hmom
      rw[show be k last p (row++10::(rows.flatMap (·++[10])++z))=.error e from h3]
      split
      ·rename_i l hl
       split at hl <;> cases hl
      ·exact⟨_,rfl⟩
     | some m =>
      rw[hmm] at hmom
      obtain⟨q,h3⟩:=hmom
      rw[show be k last p (row++10::(rows.flatMap (·++[10])++z))=.ok (toM m,q,rows.flatMap (·++[10])++z) from h3]
      have ih1:=ih m.1 q
      dsimp only
      by_cases hcd:z=[]/\many+1+rows.length<=512
      ·rw[if_pos hcd] at ih1
       rw[if_pos (hcond.mpr hcd)]
       cases hml:mLines (kn k) m.1 (rows.map (List.map G)) with
       | none =>
        rw[hml] at ih1
        obtain⟨e,h4⟩:=ih1
        show ∃e,(linesAt k f m.1 (many+1) q (rows.flatMap (·++[10])++z)).map _=.error e
        rw[h4]
        exact⟨_,rfl⟩
       | some l =>
        rw[hml] at ih1
        have ih2:linesAt k f m.1 (many+1) q (rows.flatMap (·++[10])++z)=.ok (l.map toL):=ih1
        show (linesAt k f m.1 (many+1) q (rows.flatMap (·++[10])++z)).map _=.ok _
        rw[ih2]
        rfl
      ·rw[if_neg hcd] at ih1
       rw[if_neg (fun q=>hcd (hcond.mp q))]
       obtain⟨e,h4⟩:=ih1
       show ∃e,(linesAt k f m.1 (many+1) q (rows.flatMap (·++[10])++z)).map _=.error e
       rw[h4]
       exact⟨_,rfl⟩
end LM
end
section
namespace LM
open LuteTab
theorem m6:∀(w:Bytes) (p:Nat) (u:Bytes),want w p (w++u)=.ok ((),p+w.length,u)
 | [],p,u=>rfl
 | x::w,p,u=>by
  show (if x=x then want w (p+1) (w++u) else _)=_
  rw[if_pos rfl,m6 w (p+1) u]
  simp only[List.length_cons]
  rw[show p+1+w.length=p+(w.length+1) by omega]
theorem m5:∀{w:Bytes}{p:Nat}{t:Bytes}{q:Nat}{u:Bytes},want w p t=.ok ((),q,u)->t=w++u
 | [],p,t,q,u,h=>by
  injection h with h;injection h with _ h;injection h
 | x::w,p,[],q,u,h=>by cases h
 | x::w,p,c::t,q,u,h=>by
  have h':(if c=x then want w (p+1) t else .error p)=Except.ok ((),q,u):=h
  by_cases hc:c=x
  ·rw[if_pos hc] at h'
   rw[hc,m5 h']
   rfl
  ·rw[if_neg hc] at h'
   cases h'
def wordB:Kind->Bytes
 | .french=>[102,114,101,110,99,104]
 | .italian=>[105,116,97,108,105,97,110]
 | .german=>[103,101,114,109,97,110]
theorem mq (k:Kind):k.word=wordB k:=by cases k <;> decide +kernel
theorem vy (k:Kind) (u:Bytes):∃q,kindAt (wordB k++10::u)=.ok (k,q,u):=by
 have h:want (k.word++[END]) 0 (wordB k++10::u)=.ok ((),0+(k.word++[END]).length,u):=by
  have:=m6 (k.word++[END]) 0 u
  rw[List.append_assoc,mq] at this
  rw[mq]
  exact this
 cases k
 ·refine⟨0+(Kind.french.word++[END]).length,?_⟩
  show ((match want (Kind.french.word++[END]) 0 (wordB .french++10::u) with
   | .error e=>.error e
   | .ok (_,q,u)=>.ok (Kind.french,q,u)):Rd Kind)=_
  rw[h]
 ·refine⟨0+(Kind.italian.word++[END]).length,?_⟩
  show ((match want (Kind.italian.word++[END]) 0 (wordB .italian++10::u) with
   | .error e=>.error e
   | .ok (_,q,u)=>.ok (Kind.italian,q,u)):Rd Kind)=_
  rw[h]
 ·refine⟨0+(Kind.german.word++[END]).length,?_⟩
  show ((match want (Kind.german.word++[END]) 0 (wordB .german++10::u) with
   | .error e=>.error e
   | .ok (_,q,u)=>.ok (Kind.german,q,u)):Rd Kind)=_
  rw[h]
theorem vx {t:Bytes}{k:Kind}{q:Nat}{u:Bytes} (h:kindAt t=.ok (k,q,u)):t=wordB k++10::u:=by
 have aux:∀(k':Kind),(match want (k'.word++[END]) 0 t with
   | .error e=>.error e
   | .ok (_,q,u)=>.ok (k',q,u))=(Except.ok (k,q,u):Rd Kind)->t=wordB k++10::u:=by
  intro k' h
  cases hw:want (k'.word++[END]) 0 t with
  | error e=>rw[hw] at h;cases h
  | ok x =>
   obtain⟨y,q',u'⟩:=x
   rw[hw] at h
   injection h with h
   injection h with h1 h
   injection h with h2 h3
   subst h1 h3
   have:=m5 hw
   rw[this,mq]
   simp[END]
 unfold kindAt at h
 split at h
 ·exact aux .french h
 ·exact aux .italian h
 ·exact aux .german h
 ·cases h
theorem jK:∀(ps:List Bytes) (a:Bytes),a++ps.flatMap (10::·)=(a::ps).dropLast.flatMap (·++[10])++(a::ps).getLast (by simp)
 | [],a=>by simp
 | b::ps,a=>by
  have ih:=jK ps b
  have e1:(a::b::ps).dropLast=a::(b::ps).dropLast:=rfl
  have e2:(a::b::ps).getLast (by simp)=(b::ps).getLast (by simp):=by simp
  rw[e1,e2]
  simp only[List.flatMap_cons]
  rw[List.append_assoc,← ih]
  simp
theorem lK (a:Bytes):KINDS.idxOf? (a.map G)=([wordB .french,wordB .italian,wordB .german]).idxOf? a:=by
 have e:KINDS=[wordB .french,wordB .italian,wordB .german].map (List.map UInt8.toNat):=by decide +kernel
 rw[e]
 exact mT (by decide +kernel)
theorem G10 (c:UInt8):G c=10↔c=10:=dI (n:=10) (by decide)
def toO:Except Nat (Kind×Piece)->Option Piece
 | .ok x=>some x.2
 | .error _=>none
theorem sT {l:List Bytes}:(∀r∈l,(10:UInt8)∉r)->(∀r∈l.dropLast,(10:UInt8)∉r):=fun h r hr=>h r (List.dropLast_subset _ hr)
theorem jI (t:Bytes):(mPiece (t.map G)).map (List.map toL)=toO (LuteTab.read t):=by
 have eG:∀u:Bytes,spl 10 (u.map G)=(spl 10 u).map (List.map G):=fun u=>qr G10 u
 by_cases hk:∃k u,t=wordB k++10::u
 ·obtain⟨k,u,rfl⟩:=hk
  obtain⟨q,hq⟩:=vy k u
  have hr:LuteTab.read (wordB k++10::u)=(linesAt k (u.length+1) 0 0 q u).map fun (p:Piece)=>(k,p):=by
   unfold LuteTab.read
   rw[hq]
  have hw10:(10:UInt8)∉wordB k:=by cases k <;> decide
  obtain⟨b,ps,f1,f2,f3,f4⟩:=cw (10:UInt8) u
  have hs:spl 10 ((wordB k++10::u).map G)=(wordB k).map G::(b::ps).map (List.map G):=by
   rw[eG,ji hw10,f1]
   rfl
  have h10:∀r∈b::ps,(10:UInt8)∉r:=by
   intro r hr
   rcases List.mem_cons.mp hr with rfl | hr
   ·exact f3
   ·exact f4 r hr
  have hu:=jK ps b
  rw[← f2] at hu
  have hres:=lI k (b::ps).dropLast ((b::ps).getLast (by simp)) (u.length+1) 0 0 q (sT h10) (h10 _ (List.getLast_mem _)) (by omega) (by rw[← hu];exact Nat.lt_succ_self _)
  rw[← hu] at hres
  have hidx:KINDS.idxOf? ((wordB k).map G)=some (kn k):=by
   rw[lK]
   cases k <;> decide
  have hm:mPiece ((wordB k++10::u).map G)=if (b::ps).getLast (by simp)=[]/\0+(b::ps).dropLast.length<=512 then mLines (kn k) 0 ((b::ps).dropLast.map (List.map G)) else none:=by
   unfold mPiece
   rw[hs]
   have g1:((wordB k).map G::(b::ps).map (List.map G)).getLast?=some (((b::ps).getLast (by simp)).map G):=by
    rw[List.getLast?_cons_of_ne_nil (by simp),List.getLast?_map,List.getLast?_eq_some_getLast (by simp)]
    rfl
   have g2:(((wordB k).map G::(b::ps).map (List.map G)).drop 1).dropLast=(b::ps).dropLast.map (List.map G):=by
    show ((b::ps).map (List.map G)).dropLast=_
    rw[List.map_dropLast]
   simp only[g1,List.head?_cons,hidx,g2]
   by_cases hz:(b::ps).getLast (by simp)=[]
   ·rw[if_neg (by rw[hz];simp)]
    by_cases hl:(b::ps).dropLast.length<=512
    ·rw[if_neg (by rw[List.length_map];omega),if_pos ⟨hz,by omega⟩]
    ·rw[if_pos (by rw[List.length_map];omega),if_neg (fun q=>hl (by omega))]
   ·rw[if_pos (by
     intro q
     injection q with q
     exact hz (List.map_eq_nil_iff.mp q)),if_neg (fun q=>hz q.1)]
  rw[hm,hr]
  cases ho:(if (b::ps).getLast (by simp)=[]/\0+(b::ps).dropLast.length<=512 then mLines (kn k) 0 ((b::ps).dropLast.map (List.map G)) else none) with
  | none =>
   rw[ho] at hres
   obtain⟨e,h⟩:=hres
   rw[h]
   rfl
  | some l =>
   rw[ho] at hres
   have h:linesAt k (u.length+1) 0 0 q u=.ok (l.map toL):=hres
   rw[h]
   rfl
 ·have hr:∃e,LuteTab.read t=.error e:=by
   unfold LuteTab.read
   cases h:kindAt t with
   | error e=>exact⟨e,rfl⟩
   | ok x =>
    obtain⟨k,q,u⟩:=x
    exact absurd ⟨k,u,vx h⟩ hk
  obtain⟨e,hr⟩:=hr
  rw[hr]
  have hm:mPiece (t.map G)=none:=by
   obtain⟨a,ps,f1,f2,f3,f4⟩:=cw (10:UInt8) t
   have hs:spl 10 (t.map G)=a.map G::ps.map (List.map G):=by
    rw[eG,f1]
    rfl
   unfold mPiece
   rw[hs]
   simp only[List.head?_cons]
   by_cases hl:(a.map G::ps.map (List.map G)).getLast?≠some []
   ·rw[if_pos hl]
   ·rw[if_neg hl,lK]
    cases hi:([wordB .french,wordB .italian,wordB .german]).idxOf? a with
    | none=>rfl
    | some i =>
     exfalso
     have hmem:a∈[wordB .french,wordB .italian,wordB .german]:=by
      have:([wordB .french,wordB .italian,wordB .german]).idxOf? a≠none:=by rw[hi];simp
      rw[ne_eq,List.idxOf?_eq_none_iff] at this
      exact Classical.not_not.mp this
     have hak:∃k,a=wordB k:=by
      simp only[List.mem_cons,List.not_mem_nil,or_false] at hmem
      rcases hmem with h | h | h
      ·exact⟨_,h⟩
      ·exact⟨_,h⟩
      ·exact⟨_,h⟩
     obtain⟨k,rfl⟩:=hak
     cases ps with
     | nil =>
      have hl':=Classical.not_not.mp hl
      simp at hl'
      cases k <;> cases hl'
     | cons b ps =>
      refine hk ⟨k,b++ps.flatMap (10::·),?_⟩
      rw[f2]
      simp
  rw[hm]
  rfl
end LM
end
section
namespace LM
open LuteTab LuteSound LuteHand
def ba (l:List Stop) (c:Nat):Bool:=l.any fun y=>y.course==c
def heldNow (k l:List Stop):List Held:=((k.filterMap fun s=>if 1<=s.fret then some (⟨s,true⟩:Held) else none)++(l.filterMap fun s=>if 1<=s.fret then some (⟨s,false⟩:Held) else none)).foldr insertHeld []
def sim (ring:Nat):List Stop->Piece->List (List Held)
 | _,[]=>[]
 | s,.bar::r=>sim ring (if ring=2 then [] else s) r
 | s,.moment _ l::r =>
  let k:=s.filter fun y=>!ba l y.course
  heldNow k l::sim ring (if ring=0 then [] else k++l) r
def bF (ring c i x:Nat) (p:Piece):Nat :=
 let a:=match (struckFrom i x p).find? (fun (q:Struck)=>q.halt_.course==c) with
  | some q=>q.begins
  | none=>x+units p
 if ring=1 then a else match barsFrom i x p with
  | b::_=>min b.2 a
  | []=>a
theorem dm (a:Line) (r:Piece):units (a::r)=a.units+units r:=by
 unfold units
 rw[List.map_cons,List.sum_cons]
theorem db:∀(p:Piece) (i x:Nat),∀q∈struckFrom i x p,i<=q.line/\x<=q.begins
 | [],i,x,q,h=>by simp[struckFrom] at h
 | .bar::r,i,x,q,h=>by
  have:=db r (i+1) x q (by simpa[struckFrom] using h)
  omega
 | .moment n l::r,i,x,q,h=>by
  simp only[struckFrom,List.mem_append,List.mem_map] at h
  rcases h with ⟨s,_,rfl⟩ | h
  ·exact⟨Nat.le_refl _,Nat.le_refl _⟩
  ·have:=db r (i+1) (x+n) q h
   omega
theorem jp:∀(p:Piece) (i x:Nat),∀b∈barsFrom i x p,i<=b.1/\x<=b.2
 | [],i,x,b,h=>by simp[barsFrom] at h
 | .bar::r,i,x,b,h=>by
  simp only[barsFrom,List.mem_cons] at h
  rcases h with rfl | h
  ·exact⟨Nat.le_refl _,Nat.le_refl _⟩
  ·have:=jp r (i+1) x b h
   omega
 | .moment n l::r,i,x,b,h=>by
  have:=jp r (i+1) (x+n) b (by simpa[barsFrom] using h)
  omega
theorem j7 (ring c i x:Nat) (p:Piece):x<=bF ring c i x p:=by
 have ha:x<=(match (struckFrom i x p).find? (fun (q:Struck)=>q.halt_.course==c) with
  | some q=>q.begins
  | none=>x+units p):=by
  split
  ·rename_i q h
   exact (db p i x q (List.mem_of_find?_eq_some h)).2
  ·exact Nat.le_add_right _ _
 unfold bF
 dsimp only
 split
 ·exact ha
 ·split
  ·rename_i b bs h
   have:=(jp p i x b (by rw[h];simp)).2
   omega
  ·exact ha
theorem ol (ring c i x:Nat) (r:Piece):bF ring c i x (.bar::r)=if ring=1 then bF ring c (i+1) x r else min x (match (struckFrom (i+1) x r).find? (fun (q:Struck)=>q.halt_.course==c) with
  | some q=>q.begins
  | none=>x+units r):=by
 unfold bF
 have e:units (.bar::r)=units r:=by
  rw[dm]
  show 0+_=_
  omega
 simp only[struckFrom,barsFrom,e]
 split <;> rfl
theorem er {i x n c:Nat}:∀{l:List Stop},(l.map fun (s:Stop)=>(⟨i,x,x+n,s⟩:Struck)).find? (fun q=>q.halt_.course==c)=(l.find? fun y=>y.course==c).map fun s=>⟨i,x,x+n,s⟩
 | []=>rfl
 | s::l=>by
  simp only[List.map_cons,List.find?_cons]
  cases h:s.course==c with
  | true=>rfl
  | false=>exact er
theorem i3 {ring c i x n:Nat}{l:List Stop}{r:Piece} (h:ba l c=true):bF ring c i x (.moment n l::r)<=x:=by
 unfold ba at h
 have hf:∃s,l.find? (fun y=>y.course==c)=some s:=by
  cases e:l.find? (fun y=>y.course==c) with
  | some s=>exact⟨s,rfl⟩
  | none =>
   rw[List.find?_eq_none] at e
   rw[List.any_eq_true] at h
   obtain⟨y,hy,hc⟩:=h
   exact absurd hc (e y hy)
 obtain⟨s,hs⟩:=hf
 have e:(struckFrom i x (.moment n l::r)).find? (fun (q:Struck)=>q.halt_.course==c)=some ⟨i,x,x+n,s⟩:=by
  simp only[struckFrom,List.find?_append,er,hs,Option.map_some,Option.some_or]
 unfold bF
 rw[e]
 dsimp only
 split
 ·exact Nat.le_refl _
 ·split
  ·exact Nat.min_le_right _ _
  ·exact Nat.le_refl _
theorem gG {ring c i x n:Nat}{l:List Stop}{r:Piece} (h:ba l c=false):bF ring c i x (.moment n l::r)=bF ring c (i+1) (x+n) r:=by
 unfold ba at h
 have hf:l.find? (fun y=>y.course==c)=none:=by
  rw[List.find?_eq_none]
  intro y hy hc
  rw[List.any_eq_false] at h
  exact h y hy hc
 have e:(struckFrom i x (.moment n l::r)).find? (fun (q:Struck)=>q.halt_.course==c)=(struckFrom (i+1) (x+n) r).find? (fun (q:Struck)=>q.halt_.course==c):=by
  simp only[struckFrom,List.find?_append,er,hf,Option.map_none,Option.none_or]
 have eu:x+units (.moment n l::r)=x+n+units r:=by
  rw[dm]
  show x+(n+units r)=_
  omega
 unfold bF
 rw[e,eu]
 rfl
def ends1 (ring i x:Nat) (p:Piece):List (Struck×Nat):=endsIn ring (x+units p) (barsFrom i x p) (struckFrom i x p)
theorem oK {ring u i x:Nat}{bs:List (Nat×Nat)}:∀{l:List Struck},(∀s∈l,i<=s.line)->endsIn ring u ((i,x)::bs) l=endsIn ring u bs l
 | [],_=>by unfold endsIn;rfl
 | s::r,h=>by
  have e:((i,x)::bs).dropWhile (fun (b:Nat×Nat)=>decide (b.1<=s.line))=bs.dropWhile fun (b:Nat×Nat)=>decide (b.1<=s.line):=by
   rw[List.dropWhile_cons_of_pos]
   exact decide_eq_true (h s (by simp))
  unfold endsIn
  rw[e]
theorem oJ (ring i x:Nat) (r:Piece):ends1 ring i x (.bar::r)=ends1 ring (i+1) x r:=by
 unfold ends1
 have e:units (.bar::r)=units r:=by
  rw[dm]
  show 0+_=_
  omega
 simp only[struckFrom,barsFrom,e]
 exact oK fun s hs=>by
  have:=(db r (i+1) x s hs).1
  omega
def fm (ring n i x:Nat) (r:Piece) (s:Stop):Nat:=if ring=0 then x+n else bF ring s.course (i+1) (x+n) r
theorem kt {i:Nat}:∀{bs:List (Nat×Nat)},(∀b∈bs,i<b.1)->bs.dropWhile (fun (b:Nat×Nat)=>decide (b.1<=i))=bs
 | [],_=>rfl
 | b::bs,h=>by
  rw[List.dropWhile_cons_of_neg]
  have:=h b (by simp)
  simp
  omega
theorem i9 {ring n i x:Nat} (r:Piece) (u:Nat) (hu:u=x+n+units r):∀(l:List Stop),endsIn ring u (barsFrom (i+1) (x+n) r) (l.map (fun (s:Stop)=>(⟨i,x,x+n,s⟩:Struck))++struckFrom (i+1) (x+n) r) =
  l.map (fun (s:Stop)=>((⟨i,x,x+n,s⟩:Struck),fm ring n i x r s))++endsIn ring u (barsFrom (i+1) (x+n) r) (struckFrom (i+1) (x+n) r)
 | []=>rfl
 | s::l=>by
  have ih:=i9 (ring:=ring) (i:=i) r u hu l
  have e1:(barsFrom (i+1) (x+n) r).dropWhile (fun (b:Nat×Nat)=>decide (b.1<=i))=barsFrom (i+1) (x+n) r:=kt fun b hb=>by
   have:=(jp r (i+1) (x+n) b hb).1
   omega
  have e2:(l.map (fun (s:Stop)=>(⟨i,x,x+n,s⟩:Struck))++struckFrom (i+1) (x+n) r).find? (fun (q:Struck)=>decide (i<q.line)&&q.halt_.course==s.course)=(struckFrom (i+1) (x+n) r).find? (fun (q:Struck)=>q.halt_.course==s.course):=by
   rw[List.find?_append]
   have h1:(l.map (fun (s:Stop)=>(⟨i,x,x+n,s⟩:Struck))).find? (fun (q:Struck)=>decide (i<q.line)&&q.halt_.course==s.course)=none:=by
    rw[List.find?_eq_none]
    intro q hq
    simp only[List.mem_map] at hq
    obtain⟨y,_,rfl⟩:=hq
    simp
   rw[h1,Option.none_or]
   have h2:∀q∈struckFrom (i+1) (x+n) r,(decide (i<q.line)&&q.halt_.course==s.course)=(q.halt_.course==s.course):=fun q hq=>by
    have:=(db r (i+1) (x+n) q hq).1
    have:i<q.line:=by omega
    simp[this]
   revert h2
   generalize struckFrom (i+1) (x+n) r=R
   intro h2
   induction R with
   | nil=>rfl
   | cons q R ihR =>
    have h3:=h2 q (by simp)
    simp only[List.find?_cons,h3]
    split
    ·rfl
    ·exact ihR fun q' hq'=>h2 q' (by simp[hq'])
  simp only[List.map_cons,List.cons_append]
  rw[endsIn]
  simp only[e1,e2,ih]
  congr 2
  unfold fm bF
  rw[hu]
  by_cases h0:ring=0
  ·simp[h0]
  ·simp only[h0,if_false]
   rfl
theorem i8 (ring i x n:Nat) (l:List Stop) (r:Piece):ends1 ring i x (.moment n l::r)=l.map (fun (s:Stop)=>((⟨i,x,x+n,s⟩:Struck),fm ring n i x r s))++ends1 ring (i+1) (x+n) r:=by
 unfold ends1
 have e:x+units (.moment n l::r)=x+n+units r:=by
  rw[dm]
  show x+(n+units r)=_
  omega
 rw[e]
 exact i9 r _ rfl l
theorem eD:∀(p:Piece) (ring i x:Nat),∀q∈ends1 ring i x p,x<=q.1.begins
 | [],ring,i,x,q,h=>by simp[ends1,struckFrom,endsIn] at h
 | .bar::r,ring,i,x,q,h=>by
  rw[oJ] at h
  exact eD r ring (i+1) x q h
 | .moment n l::r,ring,i,x,q,h=>by
  rw[i8] at h
  simp only[List.mem_append,List.mem_map] at h
  rcases h with ⟨s,_,rfl⟩ | h
  ·exact Nat.le_refl _
  ·have:=eD r ring (i+1) (x+n) q h
   omega
inductive Carried (ring i x:Nat) (p:Piece):List (Struck×Nat)->List Stop->Prop
 | nil:Carried ring i x p [] []
 | dead {k e C s}:e<=x->k.begins<x->Carried ring i x p C s->Carried ring i x p ((k,e)::C) s
 | live {k e C s}:e=bF ring k.halt_.course i x p->k.begins<x->Carried ring i x p C s->Carried ring i x p ((k,e)::C) (k.halt_::s)
def pick (b:Nat) (x:Struck×Nat):Option Held:=if 1<=x.1.halt_.fret/\x.1.begins<=b/\b<x.2 then some (⟨x.1.halt_,decide (x.1.begins<b)⟩:Held) else none
theorem ox (l:List (Struck×Nat)) (b:Nat):heldOf l b=(l.filterMap (pick b)).foldr insertHeld []:=rfl
theorem sj {b:Nat}{l:List (Struck×Nat)} (h:∀q∈l,b<q.1.begins):l.filterMap (pick b)=[]:=by
 rw[List.filterMap_eq_nil_iff]
 intro q hq
 have:=h q hq
 unfold pick
 rw[if_neg (by omega)]
theorem Carried.bar {ring i x:Nat}{r:Piece} (hr:ring<=2):∀{C:List (Struck×Nat)}{s:List Stop},Carried ring i x (.bar::r) C s->(ring=0->s=[])->Carried ring (i+1) x r C (if ring=2 then [] else s)
 | _,_,.nil,_=>by
  split <;> exact .nil
 | _,_,.dead h1 h2 h3,h0=>.dead h1 h2 (h3.bar hr h0)
 | _,_,.live (k:=k) (e:=e) h1 h2 h3,h0=>by
  rw[ol] at h1
  have hne:ring≠0:=fun q=>by cases h0 q
  have ih:=h3.bar hr (fun q=>absurd q hne)
  by_cases h:ring=2
  ·rw[if_neg (by omega)] at h1
   simp only[h,if_true] at ih ⊢
   subst h
   refine .dead ?_ h2 ih
   rw[h1]
   exact Nat.min_le_left _ _
  ·have:ring=1:=by omega
   rw[if_pos this] at h1
   simp only[h,if_false] at ih ⊢
   exact .live h1 h2 ih
theorem Carried.held {ring i x n:Nat}{l:List Stop}{r:Piece} (hn:1<=n):∀{C:List (Struck×Nat)}{s:List Stop},Carried ring i x (.moment n l::r) C s ->
  C.filterMap (pick x)=(s.filter fun y=>!ba l y.course).filterMap fun s=>if 1<=s.fret then some (⟨s,true⟩:Held) else none
 | _,_,.nil=>rfl
 | _,_,.dead (k:=k) (e:=e) h1 h2 h3=>by
  have e1:pick x (k,e)=none:=by
   unfold pick
   rw[if_neg (by dsimp only;omega)]
  rw[List.filterMap_cons,e1]
  exact h3.held hn
 | _,_,.live (k:=k) (e:=e) h1 h2 h3=>by
  have ih:=h3.held hn
  rw[List.filterMap_cons,List.filter_cons]
  cases hs:ba l k.halt_.course with
  | true =>
   have:=i3 (ring:=ring) (i:=i) (x:=x) (n:=n) (r:=r) hs
   have e1:pick x (k,e)=none:=by
    unfold pick
    rw[if_neg (by dsimp only;omega)]
   rw[e1]
   simpa using ih
  | false =>
   have hm:=gG (ring:=ring) (i:=i) (x:=x) (n:=n) (r:=r) hs
   have hge:=j7 ring k.halt_.course (i+1) (x+n) r
   have e1:pick x (k,e)=if 1<=k.halt_.fret then some (⟨k.halt_,true⟩:Held) else none:=by
    unfold pick
    by_cases hf:1<=k.halt_.fret
    ·rw[if_pos ⟨hf,by dsimp only;omega,by dsimp only;omega⟩,if_pos hf,decide_eq_true h2]
    ·rw[if_neg (fun q=>hf q.1),if_neg hf]
   rw[e1]
   simp only[Bool.not_false,if_true,List.filterMap_cons,ih]
theorem Carried.next {ring i x n:Nat}{l:List Stop}{r:Piece} (hn:1<=n) (h0:ring≠0):∀{C:List (Struck×Nat)}{s:List Stop},Carried ring i x (.moment n l::r) C s ->
  Carried ring (i+1) (x+n) r (C++l.map fun (s:Stop)=>((⟨i,x,x+n,s⟩:Struck),fm ring n i x r s)) ((s.filter fun y=>!ba l y.course)++l)
 | _,_,.nil=>by
  show Carried ring (i+1) (x+n) r (l.map _) l
  generalize hl:l=l'
  clear hl
  induction l' with
  | nil=>exact .nil
  | cons s l ih =>
   exact .live (by
    unfold fm
    rw[if_neg h0]) (by dsimp only;omega) ih
 | _,_,.dead (k:=k) (e:=e) h1 h2 h3=>.dead (by omega) (by omega) (h3.next hn h0)
 | _,_,.live (k:=k) (e:=e) h1 h2 h3=>by
  have ih:=h3.next hn h0
  rw[List.filter_cons]
  cases hs:ba l k.halt_.course with
  | true =>
   have:=i3 (ring:=ring) (i:=i) (x:=x) (n:=n) (r:=r) hs
   exact .dead (by omega) (by omega) ih
  | false =>
   have hm:=gG (ring:=ring) (i:=i) (x:=x) (n:=n) (r:=r) hs
   exact .live (by rw[h1,hm]) (by omega) ih
theorem Carried.next0 {i x n:Nat}{l:List Stop}{r:Piece} (hn:1<=n):∀{C:List (Struck×Nat)}{s:List Stop},s=[]->Carried 0 i x (.moment n l::r) C s ->
  Carried 0 (i+1) (x+n) r (C++l.map fun (s:Stop)=>((⟨i,x,x+n,s⟩:Struck),fm 0 n i x r s)) []
 | _,_,_,.nil=>by
  show Carried 0 (i+1) (x+n) r (l.map _) []
  generalize hl:l=l'
  clear hl
  induction l' with
  | nil=>exact .nil
  | cons s l ih=>exact .dead (Nat.le_refl _) (by dsimp only;omega) ih
 | _,_,h,.dead (k:=k) (e:=e) h1 h2 h3=>.dead (by omega) (by omega) (h3.next0 hn h)
 | _,_,h,.live _ _ _=>by cases h
theorem nO {ring i x n:Nat}{r:Piece} (hn:1<=n):∀(l:List Stop),(l.map fun (s:Stop)=>((⟨i,x,x+n,s⟩:Struck),fm ring n i x r s)).filterMap (pick x)=l.filterMap fun s=>if 1<=s.fret then some (⟨s,false⟩:Held) else none
 | []=>rfl
 | s::l=>by
  have ih:=nO (ring:=ring) (i:=i) (x:=x) (r:=r) hn l
  rw[List.map_cons,List.filterMap_cons,List.filterMap_cons,ih]
  have he:x<fm ring n i x r s:=by
   unfold fm
   split
   ·omega
   ·have:=j7 ring s.course (i+1) (x+n) r
    omega
  have e1:pick x ((⟨i,x,x+n,s⟩:Struck),fm ring n i x r s)=if 1<=s.fret then some (⟨s,false⟩:Held) else none:=by
   unfold pick
   by_cases hf:1<=s.fret
   ·rw[if_pos ⟨hf,Nat.le_refl _,he⟩,if_pos hf,decide_eq_false (Nat.lt_irrefl _)]
   ·rw[if_neg (fun q=>hf q.1),if_neg hf]
  rw[e1]
theorem kg {ring:Nat} (hr:ring<=2):∀(p:Piece) (i x:Nat) (C:List (Struck×Nat)) (s:List Stop),(∀n l,Line.moment n l∈p->1<=n)->(ring=0->s=[])->Carried ring i x p C s ->
  (momentsFrom i x p).map (fun (m:Nat×Nat)=>heldOf (C++ends1 ring i x p) m.2)=sim ring s p
 | [],i,x,C,s,_,_,_=>rfl
 | .bar::r,i,x,C,s,hp,h0,hc=>by
  rw[oJ]
  show (momentsFrom (i+1) x r).map _=sim ring (if ring=2 then [] else s) r
  exact kg hr r (i+1) x C _ (fun n l q=>hp n l (by simp[q])) (fun q=>by rw[if_neg (by omega)];exact h0 q) (hc.bar hr h0)
 | .moment n l::r,i,x,C,s,hp,h0,hc=>by
  have hn:1<=n:=hp n l (by simp)
  rw[i8]
  show heldOf _ x::(momentsFrom (i+1) (x+n) r).map _=heldNow (s.filter fun y=>!ba l y.course) l::sim ring (if ring=0 then [] else (s.filter fun y=>!ba l y.course)++l) r
  congr 1
  ·rw[ox,List.filterMap_append,List.filterMap_append,hc.held hn,nO hn,sj (l:=ends1 ring (i+1) (x+n) r) fun q hq=>by
    have:=eD r ring (i+1) (x+n) q hq
    omega]
   rw[List.append_nil]
   rfl
  ·rw[← List.append_assoc]
   refine kg hr r (i+1) (x+n) _ _ (fun n' l' q=>hp n' l' (by simp[q])) (fun q=>by rw[if_pos q]) ?_
   by_cases h:ring=0
   ·subst h
    rw[if_pos rfl]
    exact hc.next0 hn (h0 rfl)
   ·rw[if_neg h]
    exact hc.next hn h
theorem o7 {ring:Nat} (hr:ring<=2) (p:Piece) (hp:∀n l,Line.moment n l∈p->1<=n):allHeld p ring=sim ring [] p:=by
 have h:=kg hr p 0 0 [] [] hp (fun _=>rfl) .nil
 rw[← h]
 unfold allHeld moments allEnds struck ends1
 rw[Nat.zero_add]
 rfl
end LM
end
section
namespace LM
open LuteTab
def okStop (x:St):Prop:=1<=x.1/\x.1<=14/\x.2<=15/\(7<=x.1->x.2=0)
theorem idx_lt {α:Type} [BEq α] {l:List α}{a:α}{i:Nat} (h:l.idxOf? a=some i):i<l.length:=by
 unfold List.idxOf? at h
 rw[List.findIdx?_eq_some_iff_getElem] at h
 exact h.1
theorem jX {frets:List Nat} (hf:frets.length<=16):∀{s:List Nat}{k:Nat}{l:List St},1<=k->k+s.length<=7->mGrid frets k s=some l->∀x∈l,okStop x
 | [],k,l,_,_,h=>by
  simp[mGrid] at h
  subst h
  simp
 | c::s,k,l,h1,h2,h=>by
  unfold mGrid at h
  simp only[List.length_cons] at h2
  by_cases hc:c=46
  ·rw[if_pos hc] at h
   exact jX hf (by omega) (by omega) h
  ·rw[if_neg hc] at h
   cases hi:frets.idxOf? c with
   | none=>rw[hi] at h;cases h
   | some f =>
    rw[hi] at h
    simp only[Option.map_eq_some_iff] at h
    obtain⟨l',h',rfl⟩:=h
    have:=idx_lt hi
    intro x hx
    rcases List.mem_cons.mp hx with rfl | hx
    ·exact⟨h1,by dsimp only;omega,by dsimp only;omega,fun q=>absurd (show 7<=k from q) (by omega)⟩
    ·exact jX hf (by omega) (by omega) h' x hx
theorem lH {frets s:List Nat} (hf:frets.length<=16) {l:List St} (h:mGrid6 frets s=some l):∀x∈l,okStop x:=by
 unfold mGrid6 at h
 split at h
 ·exact jX hf (by omega) (by omega) h
 ·cases h
theorem gz {tab:List (List Nat)} (ht:tab.length=8):∀{ts:List (List Nat)}{l:List St},mBassList tab ts=some l->∀x∈l,okStop x
 | [],l,h=>by
  simp[mBassList] at h
  subst h
  simp
 | s::ts,l,h=>by
  unfold mBassList at h
  cases hi:tab.idxOf? s with
  | none=>rw[hi] at h;cases h
  | some i =>
   rw[hi] at h
   simp only[Option.map_eq_some_iff] at h
   obtain⟨l',h',rfl⟩:=h
   have:=idx_lt hi
   intro x hx
   rcases List.mem_cons.mp hx with rfl | hx
   ·exact⟨by dsimp only;omega,by dsimp only;omega,Nat.zero_le _,fun _=>rfl⟩
   ·exact gz ht h' x hx
theorem j4 {tab:List (List Nat)} (ht:tab.length=8) {s:List Nat}{l:List St} (h:mBasses tab s=some l):∀x∈l,okStop x:=by
 unfold mBasses at h
 split at h
 ·exact gz ht h
 ·cases h
theorem lZ {a b:Option (List St)}{l:List St} (h:both a b=some l):∃x y,a=some x/\b=some y/\l=x++y:=by
 cases a with
 | none=>simp[both] at h
 | some x =>
  cases b with
  | none=>simp[both] at h
  | some y =>
   simp[both] at h
   exact⟨x,y,rfl,rfl,h.symm⟩
theorem jZ {s:List Nat}{x:St} (h:mGermanStop s=some x):okStop x:=by
 unfold mGermanStop at h
 cases h1:NUT.idxOf? s with
 | some i =>
  rw[h1] at h;cases h
  have:=idx_lt h1
  simp[NUT] at this
  exact⟨by dsimp only;omega,by dsimp only;omega,Nat.zero_le _,fun q=>rfl⟩
 | none =>
  rw[h1] at h
  cases h2:SIXTH.idxOf? s with
  | some i =>
   rw[h2] at h;cases h
   have:=idx_lt h2
   simp[SIXTH] at this
   exact⟨by show 1<=6;decide,by show 6<=14;decide,by dsimp only;omega,fun q=>absurd (show 7<=6 from q) (by decide)⟩
  | none =>
   rw[h2] at h
   cases h3:GB.idxOf? s with
   | some i =>
    rw[h3] at h;cases h
    have:=idx_lt h3
    simp[GB] at this
    exact⟨by dsimp only;omega,by dsimp only;omega,Nat.zero_le _,fun q=>rfl⟩
   | none =>
    rw[h3] at h
    simp only[mCross] at h
    split at h
    ·cases h
    ·rename_i hc
     split at h
     ·cases h
     ·rename_i i hi
      have:=idx_lt hi
      simp[GC] at this
      cases h
      have hl:¬3<s.length:=fun q=>hc (.inr (.inl q))
      have h0:¬s.length<1:=fun q=>hc (.inl q)
      exact⟨by dsimp only;omega,by dsimp only;omega,by dsimp only;omega,fun q=>absurd (show 7<=5-i % 5 from q) (by omega)⟩
theorem dZ:∀{ts:List (List Nat)}{l:List St},mGermanList ts=some l->∀x∈l,okStop x
 | [],l,h=>by
  simp[mGermanList] at h
  subst h
  simp
 | s::ts,l,h=>by
  unfold mGermanList at h
  cases hi:mGermanStop s with
  | none=>rw[hi] at h;cases h
  | some i =>
   rw[hi] at h
   simp only[Option.map_eq_some_iff] at h
   obtain⟨l',h',rfl⟩:=h
   intro x hx
   rcases List.mem_cons.mp hx with rfl | hx
   ·exact jZ hi
   ·exact dZ h' x hx
theorem sU {k:Nat}{t:List Nat}{l:List St} (h:mStops k t=some l):(∀x∈l,okStop x)/\rise l=true:=by
 unfold mStops risen at h
 split at h
 ·rename_i l' hl
  split at h
  ·rename_i hr
   cases h
   refine⟨?_,hr⟩
   split at hl
   ·obtain⟨x,y,hx,hy,rfl⟩:=lZ hl
    intro z hz
    rcases List.mem_append.mp hz with hz | hz
    ·exact lH (by decide) hx z hz
    ·exact j4 (by decide) hy z hz
   ·split at hl
    ·obtain⟨x,y,hx,hy,rfl⟩:=lZ hl
     intro z hz
     rcases List.mem_append.mp hz with hz | hz
     ·exact lH (by decide) hx z hz
     ·exact j4 (by decide) hy z hz
    ·unfold mGerman at hl
     split at hl
     ·cases hl;simp
     ·exact dZ hl
  ·cases h
 ·cases h
theorem j6 {s:List Nat}{n:Nat}:∀{l:List (List Nat×Nat)},l.lookup s=some n->(s,n)∈l
 | [],h=>by cases h
 | (a,b)::l,h=>by
  rw[List.lookup_cons] at h
  cases hs:s==a with
  | true =>
   rw[hs] at h
   have e:s=a:=by simpa using hs
   cases h
   rw[e]
   simp
  | false =>
   rw[hs] at h
   exact List.mem_cons_of_mem _ (j6 h)
theorem pS {s:List Nat}{last n:Nat} (h:mLength s last=some n):1<=n/\(n<=96∨n=last):=by
 unfold mLength at h
 split at h
 ·split at h
  ·cases h
  ·cases h
   exact⟨by omega,.inr rfl⟩
 ·split at h
  ·cases h
  ·rename_i m hm
   split at h
   ·cases h
   ·cases h
    have:∀p∈LEN,1<=p.2/\p.2<=96:=by decide
    have:=this _ (j6 hm)
    exact⟨this.1,.inl this.2⟩
def okLine (a:Ln):Prop:=∀n l,a=some (n,l)->1<=n/\n<=96/\(∀x∈l,okStop x)/\rise l=true
theorem pR {k last:Nat}{row:List Nat}{m:Nat×List St} (hl:last<=96) (h:mMoment k row last=some m):1<=m.1/\m.1<=96/\(∀x∈m.2,okStop x)/\rise m.2=true:=by
 unfold mMoment at h
 split at h
 ·cases h
 ·split at h
  ·cases h
  ·rename_i n hn
   simp only[Option.map_eq_some_iff] at h
   obtain⟨l,h',rfl⟩:=h
   have h1:=pS hn
   have h2:=sU h'
   exact⟨h1.1,by dsimp only;omega,h2.1,h2.2⟩
theorem iq {k:Nat}:∀{rows:List (List Nat)}{last:Nat}{ls:List Ln},last<=96->mLines k last rows=some ls->(∀a∈ls,okLine a)/\ls.length=rows.length
 | [],last,ls,_,h=>by
  unfold mLines at h
  split at h
  ·cases h
  ·cases h
   simp
 | row::rows,last,ls,hl,h=>by
  unfold mLines at h
  split at h
  ·simp only[Option.map_eq_some_iff] at h
   obtain⟨l',h',rfl⟩:=h
   obtain⟨h1,h2⟩:=iq hl h'
   refine⟨fun a ha=>?_,by simp[h2]⟩
   rcases List.mem_cons.mp ha with rfl | ha
   ·intro n l e;cases e
   ·exact h1 a ha
  ·split at h
   ·cases h
   ·rename_i m hm
    simp only[Option.map_eq_some_iff] at h
    obtain⟨l',h',rfl⟩:=h
    have h0:=pR hl hm
    obtain⟨h1,h2⟩:=iq h0.2.1 h'
    refine⟨fun a ha=>?_,by simp[h2]⟩
    rcases List.mem_cons.mp ha with rfl | ha
    ·intro n l e
     cases e
     exact h0
    ·exact h1 a ha
theorem mPiece_ok {cs:List Nat}{ls:List Ln} (h:mPiece cs=some ls):(∀a∈ls,okLine a)/\ls.length<=512:=by
 unfold mPiece at h
 dsimp only at h
 split at h
 ·cases h
 ·split at h
  ·cases h
  ·split at h
   ·cases h
   ·split at h
    ·cases h
    ·rename_i hl
     obtain⟨h1,h2⟩:=iq (by decide) h
     exact⟨h1,by omega⟩
end LM
end
section
namespace LM
open LuteTab LuteSound LuteHand
theorem ck (a:Held):∀l:List Held,(insertHeld a l).Perm (a::l)
 | []=>.refl _
 | b::r=>by
  unfold insertHeld
  split
  ·exact .refl _
  ·exact ((ck a r).cons b).trans (.swap a b r)
theorem cX:∀l:List Held,(l.foldr insertHeld []).Perm l
 | []=>.refl _
 | a::l=>(ck a _).trans ((cX l).cons a)
def cK (a b:Held):Prop:=a.halt_.course<b.halt_.course
theorem cV (a:Held):∀{l:List Held},(∀b∈l,b.halt_.course≠a.halt_.course)->l.Pairwise cK->(insertHeld a l).Pairwise cK
 | [],_,_=>by simp[insertHeld]
 | b::r,hn,h=>by
  unfold insertHeld
  rw[List.pairwise_cons] at h
  split
  ·rename_i hlt
   rw[List.pairwise_cons]
   refine⟨fun c hc=>?_,List.pairwise_cons.mpr h⟩
   rcases List.mem_cons.mp hc with rfl | hc
   ·exact hlt
   ·exact Nat.lt_trans hlt (h.1 c hc)
  ·rename_i hlt
   rw[List.pairwise_cons]
   refine⟨fun c hc=>?_,cV a (fun c hc=>hn c (by simp[hc])) h.2⟩
   rcases List.mem_cons.mp ((ck a r).mem_iff.mp hc) with rfl | hc
   ·have:=hn b (by simp)
    show b.halt_.course<_
    omega
   ·exact h.1 c hc
theorem dL:∀{l:List Held},l.Pairwise (fun a b=>a.halt_.course≠b.halt_.course)->(l.foldr insertHeld []).Pairwise cK
 | [],_=>.nil
 | a::l,h=>by
  rw[List.pairwise_cons] at h
  refine cV a (fun b hb=>?_) (dL h.2)
  exact fun q=>h.1 b ((cX l).mem_iff.mp hb) q.symm
theorem iO {α:Type} (f:α->Nat):∀{l m:List α},l.Pairwise (fun a b=>f a<f b)->m.Pairwise (fun a b=>f a<f b)->(∀x,x∈l↔x∈m)->l=m
 | [],[],_,_,_=>rfl
 | [],b::m,_,_,h=>by have:=(h b).mpr (by simp);simp at this
 | a::l,[],_,_,h=>by have:=(h a).mp (by simp);simp at this
 | a::l,b::m,h1,h2,h=>by
  rw[List.pairwise_cons] at h1 h2
  have e:a=b:=by
   rcases List.mem_cons.mp ((h a).mp (by simp)) with q | q
   ·exact q
   ·rcases List.mem_cons.mp ((h b).mpr (by simp)) with q' | q'
    ·exact q'.symm
    ·have:=h1.1 b q'
     have:=h2.1 a q
     omega
  subst e
  have:l=m:=iO f h1.2 h2.2 fun x=>by
   constructor
   ·intro hx
    rcases List.mem_cons.mp ((h x).mp (by simp[hx])) with q | q
    ·subst q;have:=h1.1 x hx;omega
    ·exact q
   ·intro hx
    rcases List.mem_cons.mp ((h x).mpr (by simp[hx])) with q | q
    ·subst q;have:=h2.1 x hx;omega
    ·exact q
  rw[this]
def Apart (l:List Stop):Prop:=l.Pairwise fun a b=>a.course≠b.course
theorem mem_heldNow {k l:List Stop}{h:Held}:h∈heldNow k l↔1<=h.halt_.fret/\((h.on=true/\h.halt_∈k)∨(h.on=false/\h.halt_∈l)):=by
 unfold heldNow
 rw[(cX _).mem_iff]
 obtain⟨s,o⟩:=h
 simp only[List.mem_append,List.mem_filterMap]
 constructor
 ·rintro (⟨a,ha,e⟩ | ⟨a,ha,e⟩)
  ·by_cases hf:1<=a.fret
   ·rw[if_pos hf] at e
    cases e
    exact⟨hf,.inl ⟨rfl,ha⟩⟩
   ·rw[if_neg hf] at e;cases e
  ·by_cases hf:1<=a.fret
   ·rw[if_pos hf] at e
    cases e
    exact⟨hf,.inr ⟨rfl,ha⟩⟩
   ·rw[if_neg hf] at e;cases e
 ·rintro⟨hf,⟨rfl,hk⟩ | ⟨rfl,hl⟩⟩
  ·exact .inl ⟨s,hk,by rw[if_pos hf]⟩
  ·exact .inr ⟨s,hl,by rw[if_pos hf]⟩
theorem kJ {o:Bool}:∀{l:List Stop},Apart l->(l.filterMap fun s=>if 1<=s.fret then some (⟨s,o⟩:Held) else none).Pairwise fun a b=>a.halt_.course≠b.halt_.course:=fun {l} h=>by
 rw[List.pairwise_filterMap]
 refine h.imp fun hab x hx y hy=>?_
 split at hx
 ·cases hx
  split at hy
  ·cases hy;exact hab
  ·cases hy
 ·cases hx
theorem eh {k l:List Stop} (hk:Apart k) (hl:Apart l) (hkl:∀a∈k,∀b∈l,a.course≠b.course):(heldNow k l).Pairwise cK:=by
 unfold heldNow
 refine dL ?_
 rw[List.pairwise_append]
 refine⟨kJ hk,kJ hl,fun a ha b hb=>?_⟩
 simp only[List.mem_filterMap] at ha hb
 obtain⟨x,hx,ex⟩:=ha
 obtain⟨y,hy,ey⟩:=hb
 split at ex
 ·cases ex
  split at ey
  ·cases ey;exact hkl x hx y hy
  ·cases ey
 ·cases ex
def look (s:List St) (c:Nat):Option Nat:=(s.find? fun y=>y.1==c).map (·.2)
def putS (s:List St) (x:St):List St:=s.filter (fun y=>!(y.1==x.1))++[x]
def hit (l:List St) (c:Nat):Bool:=l.any fun y=>y.1==c
def apartP (l:List St):Prop:=l.Pairwise fun a b=>a.1≠b.1
theorem look_put (s:List St) (x:St) (c:Nat):look (putS s x) c=if c=x.1 then some x.2 else look s c:=by
 unfold look putS
 rw[List.find?_append]
 by_cases e:c=x.1
 ·subst e
  have h:(s.filter fun y=>!(y.1==x.1)).find? (fun y=>y.1==x.1)=none:=by
   rw[List.find?_eq_none]
   intro y hy
   have:=(List.mem_filter.mp hy).2
   simpa using this
  rw[h,if_pos rfl]
  simp
 ·rw[if_neg e]
  have h1:(s.filter fun y=>!(y.1==x.1)).find? (fun y=>y.1==c)=s.find? (fun y=>y.1==c):=by
   rw[List.find?_filter]
   congr 1
   funext y
   by_cases h:y.1=c
   ·have:¬y.1=x.1:=fun q=>e (h.symm.trans q)
    simp[h,this]
    intro q
    exact e q
   ·simp[h]
  rw[h1]
  have h2:([x].find? fun y=>y.1==c)=none:=by
   rw[List.find?_eq_none]
   intro y hy
   simp at hy
   subst hy
   simp
   exact fun q=>e q.symm
  rw[h2,Option.or_none]
theorem fold_put:∀{l:List St}{s:List St},apartP l->l.foldl putS s=s.filter (fun y=>!hit l y.1)++l
 | [],s,_=>by
  have:s.filter (fun y=>!hit [] y.1)=s:=by
   rw[List.filter_eq_self]
   intro a _
   rfl
  simp[this]
 | a::l,s,h=>by
  unfold apartP at h
  rw[List.pairwise_cons] at h
  have ih:=fold_put (l:=l) (s:=putS s a) h.2
  rw[List.foldl_cons,ih]
  unfold putS
  rw[List.filter_append,List.filter_filter]
  have h1:[a].filter (fun y=>!hit l y.1)=[a]:=by
   have:hit l a.1=false:=by
    unfold hit
    rw[List.any_eq_false]
    intro y hy
    have:=h.1 y hy
    simp
    exact fun q=>this q.symm
   simp[this]
  rw[h1]
  have h2:s.filter (fun y=>(!hit l y.1)&&!(y.1==a.1))=s.filter fun y=>!hit (a::l) y.1:=by
   congr 1
   funext y
   unfold hit
   rw[List.any_cons]
   by_cases e:y.1=a.1
   ·simp[e]
   ·have:(a.1==y.1)=false:=by simp;exact fun q=>e q.symm
    simp[e,this]
  rw[h2]
  simp
theorem apart_next {s l:List St} (hs:apartP s) (hl:apartP l):apartP (s.filter (fun y=>!hit l y.1)++l):=by
 unfold apartP at *
 rw[List.pairwise_append]
 refine⟨hs.filter _,hl,fun a ha b hb=>?_⟩
 have:=(List.mem_filter.mp ha).2
 unfold hit at this
 simp at this
 exact fun q=>this b.1 b.2 hb q.symm
theorem look_mem {s:List St} (h:apartP s) {c f:Nat}:look s c=some f↔(c,f)∈s:=by
 unfold look
 induction s with
 | nil=>simp
 | cons a s ih =>
  unfold apartP at h ih
  rw[List.pairwise_cons] at h
  rw[List.find?_cons]
  by_cases e:a.1=c
  ·have:(a.1==c)=true:=by simp[e]
   rw[this]
   simp only[Option.map_some,Option.some.injEq,List.mem_cons]
   constructor
   ·intro q
    exact .inl (by rw[← e,← q])
   ·rintro (q | q)
    ·rw[← q]
    ·exact absurd e (h.1 _ q)
  ·have:(a.1==c)=false:=by simp[e]
   rw[this]
   simp only[List.mem_cons]
   rw[ih h.2]
   constructor
   ·exact .inr
   ·rintro (q | q)
    ·exact absurd (by rw[← q]) e
    ·exact q
def pr (h:Held):St:=(h.halt_.course,h.halt_.fret)
theorem rise_apartP {l:List St}:rise l=true->apartP l:=by
 have aux:∀(l:List St) (n:Nat),chain n l=true->(∀x∈l,n<x.1)/\l.Pairwise fun a b=>a.1<b.1:=by
  intro l
  induction l with
  | nil=>exact fun _ _=>⟨by simp,.nil⟩
  | cons a l ih =>
   intro n h
   simp only[chain,Bool.and_eq_true,decide_eq_true_eq] at h
   obtain⟨h1,h2⟩:=ih a.1 h.2
   refine⟨fun x hx=>?_,List.pairwise_cons.mpr ⟨h1,h2⟩⟩
   rcases List.mem_cons.mp hx with rfl | hx
   ·exact h.1
   ·exact Nat.lt_trans h.1 (h1 x hx)
 intro h
 cases l with
 | nil=>exact .nil
 | cons a l =>
  obtain⟨h1,h2⟩:=aux l a.1 h
  exact List.pairwise_cons.mpr ⟨fun b hb=>Nat.ne_of_lt (h1 b hb),h2.imp fun q=>Nat.ne_of_lt q⟩
theorem eR {l:List St} (h:apartP l):Apart (l.map toS):=by
 unfold Apart
 rw[List.pairwise_map]
 exact h
theorem mem_toS {l:List St}{s:Stop}:s∈l.map toS↔(s.course,s.fret)∈l:=by
 rw[List.mem_map]
 constructor
 ·rintro⟨x,hx,rfl⟩
  exact hx
 ·intro h
  exact⟨_,h,rfl⟩
theorem held_pairs {k l m:List St} (hk:apartP k) (hl:apartP l) (hkl:∀a∈k,∀b∈l,a.1≠b.1) (hm:m.Pairwise fun a b=>a.1<b.1) (he:∀x:St,x∈m↔1<=x.2/\x∈k++l) :
  (heldNow (k.map toS) (l.map toS)).map pr=m:=by
 have hs:=eh (eR hk) (eR hl) (fun a ha b hb=>hkl _ (mem_toS.mp ha) _ (mem_toS.mp hb))
 refine iO (fun x:St=>x.1) ?_ hm fun x=>?_
 ·rw[List.pairwise_map]
  exact hs
 ·rw[he,List.mem_map]
  constructor
  ·rintro⟨h,hh,rfl⟩
   rw[mem_heldNow] at hh
   refine⟨hh.1,?_⟩
   rcases hh.2 with ⟨_,q⟩ | ⟨_,q⟩
   ·exact List.mem_append_left _ (mem_toS.mp q)
   ·exact List.mem_append_right _ (mem_toS.mp q)
  ·rintro⟨h1,h2⟩
   rcases List.mem_append.mp h2 with q | q
   ·exact⟨⟨toS x,true⟩,mem_heldNow.mpr ⟨h1,.inl ⟨rfl,mem_toS.mpr q⟩⟩,rfl⟩
   ·exact⟨⟨toS x,false⟩,mem_heldNow.mpr ⟨h1,.inr ⟨rfl,mem_toS.mpr q⟩⟩,rfl⟩
theorem ph (l:List St) (c:Nat):ba (l.map toS) c=hit l c:=by
 unfold ba hit
 rw[List.any_map]
 rfl
theorem pZ (s l:List St):(s.map toS).filter (fun y=>!ba (l.map toS) y.course)=(s.filter fun y=>!hit l y.1).map toS:=by
 rw[List.filter_map]
 congr 1
 congr 1
 funext y
 show (!ba (l.map toS) y.1)=_
 rw[ph]
theorem nodup_le:∀(n:Nat) (l:List Nat),l.Nodup->(∀x∈l,x<n)->l.length<=n
 | 0,l,_,h=>by
  cases l with
  | nil=>simp
  | cons a l=>exact absurd (h a (by simp)) (Nat.not_lt_zero _)
 | n+1,l,hn,h=>by
  have ih:=nodup_le n (l.filter fun x=>!(x==n)) (hn.filter _) fun x hx=>by
   have h1:=(List.mem_filter.mp hx).1
   have h2:=(List.mem_filter.mp hx).2
   have:=h x h1
   have:¬x=n:=by simpa using h2
   omega
  have:∀l:List Nat,l.Nodup->l.length<=(l.filter fun x=>!(x==n)).length+1:=by
   intro l
   induction l with
   | nil=>simp
   | cons a l ih =>
    intro hn
    rw[List.nodup_cons] at hn
    by_cases e:a=n
    ·subst e
     have:l.filter (fun x=>!(x==a))=l:=by
      rw[List.filter_eq_self]
      intro x hx
      simp
      exact fun q=>hn.1 (by rw[← q];exact hx)
     simp[this]
    ·have:=ih hn.2
     simp[e]
     omega
  have:=this l hn
  omega
theorem ua {n:Nat} (h:n<256):(UInt8.ofNat n).toNat=n:=by simp[UInt8.toNat_ofNat];omega
theorem io:∀{ns:List Nat},(∀n∈ns,n<256)->(ns.map UInt8.ofNat).map G=ns.map clean
 | [],_=>rfl
 | n::ns,h=>by
  have ih:=io (ns:=ns) fun m hm=>h m (by simp[hm])
  have h1:=h n (by simp)
  show G (UInt8.ofNat n)::_=clean n::_
  rw[ih]
  unfold G
  rw[ua h1]
theorem bytes_of (ns:List Nat):LuHandNeutral.bytes (ns.map fun (n:Nat)=>(n:Int))=ns.map UInt8.ofNat:=by
 unfold LuHandNeutral.bytes
 rw[List.map_map]
 refine List.map_congr_left fun n _=>?_
 show UInt8.ofNat ((n:Int).toNat)=UInt8.ofNat n
 rw[Int.toNat_natCast]
theorem rZ {t:Bytes}{ls:List Ln} (h:mPiece (t.map G)=some ls):∃k,LuteTab.read t=.ok (k,ls.map toL):=by
 have:=jI t
 rw[h] at this
 cases hr:LuteTab.read t with
 | error e=>rw[hr] at this;cases this
 | ok x =>
  rw[hr] at this
  have e:ls.map toL=x.2:=Option.some.inj this
  exact⟨x.1,by rw[e]⟩
theorem se {t:Bytes} (h:mPiece (t.map G)=none):∃e,LuteTab.read t=.error e:=by
 have:=jI t
 rw[h] at this
 cases hr:LuteTab.read t with
 | error e=>exact⟨e,rfl⟩
 | ok x=>rw[hr] at this;cases this
theorem wQ {ns:List Nat} (hn:∀n∈ns,n<256) (ring:Nat) (f:List (List Held)->List Int):LuteE.of (ns.map UInt8.ofNat) ring f=if 65536<ns.length then [-2] else match mPiece (ns.map clean) with
  | none=>[-6]
  | some ls=>if 2<ring then [-1] else f (allHeld (ls.map toL) ring):=by
 unfold LuteE.of
 rw[List.length_map]
 by_cases h:65536<ns.length
 ·rw[if_pos h,if_pos (show LuteE.TEXT<ns.length from h)]
  rfl
 ·rw[if_neg h,if_neg (show ¬LuteE.TEXT<ns.length from h)]
  cases hm:mPiece (ns.map clean) with
  | none =>
   obtain⟨e,hr⟩:=se (t:=ns.map UInt8.ofNat) (by rw[io hn];exact hm)
   rw[hr]
   rfl
  | some ls =>
   obtain⟨k,hr⟩:=rZ (t:=ns.map UInt8.ofNat) (by rw[io hn];exact hm)
   rw[hr]
   rfl
def pairs (h:List Held) (l:List Nat):List (Stop×Nat):=(h.map Held.halt_).zip l
theorem choices_mem {p:Nat}:∀{h:List Held}{l:List Nat},l∈choices p h↔l.length=h.length/\(pairs h l).all (fun x=>reaches p x.2 x.1.fret)=true
 | [],l=>by
  unfold choices
  constructor
  ·intro q
   have:l=[]:=by simpa using q
   subst this
   exact⟨rfl,rfl⟩
  ·rintro⟨q,_⟩
   have:l=[]:=List.length_eq_zero_iff.mp (by simpa using q)
   simp[this]
 | s::r,l=>by
  unfold choices
  rw[List.mem_flatMap]
  constructor
  ·rintro⟨f,hf,hl⟩
   rw[List.mem_map] at hl
   obtain⟨m,hm,rfl⟩:=hl
   obtain⟨h1,h2⟩:=choices_mem.mp hm
   have hf2:=(List.mem_filter.mp hf).2
   refine⟨by simp[h1],?_⟩
   show (reaches p f s.halt_.fret&&(pairs r m).all _)=true
   rw[hf2,h2]
   rfl
  ·rintro⟨h1,h2⟩
   cases l with
   | nil=>simp at h1
   | cons f m =>
    have h2':(reaches p f s.halt_.fret&&(pairs r m).all (fun x=>reaches p x.2 x.1.fret))=true:=h2
    rw[Bool.and_eq_true] at h2'
    have hr:=h2'.1
    unfold reaches at hr
    simp only[Bool.and_eq_true,decide_eq_true_eq] at hr
    refine⟨f,List.mem_filter.mpr ⟨?_,h2'.1⟩,List.mem_map.mpr ⟨m,choices_mem.mpr ⟨by simpa using h1,h2'.2⟩,rfl⟩⟩
    have:f=1∨f=2∨f=3∨f=4:=by omega
    rcases this with rfl | rfl | rfl | rfl <;> simp
def gripsAt (p:Nat) (h:List Held):List (List Nat):=(choices p h).filter fun l=>allTogether (pairs h l)
theorem cJ {α β:Type} (f:α->List β) (q:β->Bool):∀l:List α,(l.flatMap f).filter q=l.flatMap fun a=>(f a).filter q
 | []=>rfl
 | a::l=>by
  rw[List.flatMap_cons,List.filter_append,cJ f q l,List.flatMap_cons]
theorem bH {α β:Type}{f g:α->List β}:∀{l:List α},(∀a∈l,f a=g a)->l.flatMap f=l.flatMap g
 | [],_=>rfl
 | a::l,h=>by
  rw[List.flatMap_cons,List.flatMap_cons,h a (by simp),bH fun b hb=>h b (by simp[hb])]
theorem grips_at (h:List Held):grips h=(List.range 15).flatMap fun i=>(gripsAt (i+1) h).map fun l=>(⟨i+1,l⟩:Grip):=by
 unfold grips
 show ((List.range 15).flatMap _).filter _=_
 rw[cJ]
 refine bH fun i hi=>?_
 rw[List.filter_map]
 unfold gripsAt
 congr 1
 refine List.filter_congr fun l hl=>?_
 obtain⟨h1,h2⟩:=choices_mem.mp hl
 have hi':i<15:=List.mem_range.mp hi
 show Grip.ok ⟨i+1,l⟩ h=allTogether (pairs h l)
 unfold Grip.ok Grip.on POSITIONS
 have e1:decide (1<=i+1)=true:=decide_eq_true (by omega)
 have e2:decide (i+1<=15)=true:=decide_eq_true (by omega)
 have e3:(l.length==h.length)=true:=by simp[h1]
 simp only[e1,e2,e3,Bool.true_and]
 rw[show ((h.map Held.halt_).zip l).all (fun x=>reaches (i+1) x.2 x.1.fret)=true from h2,Bool.true_and]
 rfl
theorem cI {α β:Type} (q:α->Bool) (f:α->List β):∀l:List α,(l.filter q).flatMap f=l.flatMap fun a=>if q a=true then f a else []
 | []=>rfl
 | a::l=>by
  rw[List.filter_cons,List.flatMap_cons]
  cases hq:q a with
  | true=>simp[hq,cI q f l]
  | false=>simp[hq,cI q f l]
theorem mem_grips {h:List Held}{g:Grip}:g∈grips h↔g.ok h=true:=by
 unfold grips
 rw[List.mem_filter]
 constructor
 ·exact fun q=>q.2
 ·intro q
  refine⟨?_,q⟩
  unfold Grip.ok Grip.on POSITIONS at q
  simp only[Bool.and_eq_true,decide_eq_true_eq,beq_iff_eq] at q
  obtain⟨q1,q2,q3,q4,q5⟩:=q
  rw[List.mem_flatMap]
  refine⟨g.pos-1,List.mem_range.mpr (show g.pos-1<15 by omega),?_⟩
  rw[List.mem_map]
  have e:g.pos-1+1=g.pos:=by omega
  refine⟨g.fingers,?_,?_⟩
  ·rw[e]
   exact choices_mem.mpr ⟨q3,q4⟩
  ·rw[e]
def heldS (ring:Nat) (s:List St) (ls:List Ln):List (List Held):=sim ring (s.map toS) (ls.map toL)
theorem heldS_nil (ring:Nat) (s:List St):heldS ring s []=[]:=rfl
theorem heldS_bar (ring:Nat) (s:List St) (r:List Ln):heldS ring s (none::r)=heldS ring (if ring=2 then [] else s) r:=by
 unfold heldS
 show sim ring (if ring=2 then [] else s.map toS) (r.map toL)=_
 by_cases h:ring=2
 ·simp only[if_pos h,List.map_nil]
 ·simp only[if_neg h]
theorem heldS_moment (ring:Nat) (s l:List St) (n:Nat) (r:List Ln):heldS ring s (some (n,l)::r)=heldNow ((s.filter fun y=>!hit l y.1).map toS) (l.map toS)::heldS ring (if ring=0 then [] else s.filter (fun y=>!hit l y.1)++l) r:=by
 unfold heldS
 show (heldNow ((s.map toS).filter fun y=>!ba (l.map toS) y.course) (l.map toS))::sim ring (if ring=0 then [] else (s.map toS).filter (fun y=>!ba (l.map toS) y.course)++l.map toS) (r.map toL)=_
 rw[pZ]
 congr 1
 by_cases h:ring=0
 ·simp only[if_pos h,List.map_nil]
 ·simp only[if_neg h,List.map_append]
theorem tD {ls:List Ln}{ring:Nat} (hr:ring<=2) (ok:∀a∈ls,okLine a):allHeld (ls.map toL) ring=heldS ring [] ls:=by
 rw[o7 hr]
 ·rfl
 ·intro n l h
  obtain⟨a,ha,e⟩:=List.mem_map.mp h
  cases a with
  | none=>cases e
  | some m =>
   obtain⟨n',l'⟩:=m
   have e':Line.moment n' (l'.map toS)=Line.moment n l:=e
   injection e' with e1 e2
   rw[← e1]
   exact (ok _ ha n' l' rfl).1
structure okHeld (h:List Held):Prop where
 by_:h.Pairwise cK
 in_:∀x∈h,1<=x.halt_.course/\x.halt_.course<=6/\1<=x.halt_.fret/\x.halt_.fret<=15
theorem okHeld.len {h:List Held} (k:okHeld h):h.length<=6:=by
 have hn:((h.map fun x=>x.halt_.course-1)).Nodup:=by
  unfold List.Nodup
  rw[List.pairwise_map]
  refine (List.Pairwise.and_mem.mp k.by_).imp fun⟨ha,hb,hab⟩=>?_
  have h1:=k.in_ _ ha
  have h2:=k.in_ _ hb
  unfold cK at hab
  omega
 have:=nodup_le 6 _ hn fun x hx=>by
  obtain⟨y,hy,rfl⟩:=List.mem_map.mp hx
  have:=k.in_ y hy
  omega
 simpa using this
def Follows (b h:List Held):Prop:=∀x∈h,x.on=true->pr x∈b.map pr
def withPrev:List Held->List (List Held)->List (List Held×List Held)
 | _,[]=>[]
 | b,h::r=>(b,h)::withPrev h r
def okMom (x:List Held×List Held):Prop:=okHeld x.1/\okHeld x.2/\Follows x.1 x.2
theorem pI:okHeld []:=⟨.nil,by simp⟩
theorem heldNow_ok {k l:List St} (hk:apartP k) (hl:apartP l) (hkl:∀a∈k,∀b∈l,a.1≠b.1) (ok:∀x∈k++l,okStop x):okHeld (heldNow (k.map toS) (l.map toS)):=by
 refine⟨eh (eR hk) (eR hl) (fun a ha b hb=>hkl _ (mem_toS.mp ha) _ (mem_toS.mp hb)),fun x hx=>?_⟩
 obtain⟨h1,h2⟩:=mem_heldNow.mp hx
 have:pr x∈k++l:=by
  rcases h2 with ⟨_,q⟩ | ⟨_,q⟩
  ·exact List.mem_append_left _ (mem_toS.mp q)
  ·exact List.mem_append_right _ (mem_toS.mp q)
 obtain⟨g1,g2,g3,g4⟩:=ok _ this
 have e1:(pr x).1=x.halt_.course:=rfl
 have e2:(pr x).2=x.halt_.fret:=rfl
 rw[e1] at g1 g2 g4
 rw[e2] at g3 g4
 refine⟨g1,?_,h1,g3⟩
 refine Nat.le_of_lt_succ (Nat.lt_of_not_le fun q=>?_)
 have:=g4 q
 omega
theorem apart_filter {s l:List St} (hs:apartP s):apartP (s.filter fun y=>!hit l y.1):=by
 unfold apartP at *
 exact hs.filter _
theorem kept_ne {s l:List St}:∀a∈s.filter (fun y=>!hit l y.1),∀b∈l,a.1≠b.1:=fun a ha b hb=>by
 have:=(List.mem_filter.mp ha).2
 unfold hit at this
 simp at this
 exact fun q=>this b.1 b.2 hb q.symm
def Sounds (b:List Held) (s:List St):Prop:=∀x∈s,1<=x.2->x∈b.map pr
theorem d9 {ring:Nat}:∀{ls:List Ln}{s:List St}{b:List Held},(∀a∈ls,okLine a)->apartP s->(∀x∈s,okStop x)->okHeld b->Sounds b s->∀x∈withPrev b (heldS ring s ls),okMom x
 | [],s,b,_,_,_,_,_,x,h=>by
  rw[heldS_nil] at h
  simp[withPrev] at h
 | none::r,s,b,ok,as,os,ob,hb,x,h=>by
  rw[heldS_bar] at h
  have ok':∀a∈r,okLine a:=fun a ha=>ok a (by simp[ha])
  by_cases e:ring=2
  ·rw[if_pos e] at h
   exact d9 ok' .nil (by simp) ob (by intro x hx;simp at hx) x h
  ·rw[if_neg e] at h
   exact d9 ok' as os ob hb x h
 | some (n,m)::r,s,b,ok,as,os,ob,hb,x,h=>by
  rw[heldS_moment] at h
  have ok':∀a∈r,okLine a:=fun a ha=>ok a (by simp[ha])
  have okm:=ok (some (n,m)) (by simp) n m rfl
  have am:=rise_apartP okm.2.2.2
  have ap:=apart_next as am
  have oall:∀x∈s.filter (fun y=>!hit m y.1)++m,okStop x:=fun x hx=>by
   rcases List.mem_append.mp hx with q | q
   ·exact os x (List.mem_filter.mp q).1
   ·exact okm.2.2.1 x q
  have oh:=heldNow_ok (apart_filter (l:=m) as) am kept_ne oall
  rcases List.mem_cons.mp h with rfl | h
  ·refine⟨ob,oh,fun y hy on=>?_⟩
   obtain⟨h1,h2⟩:=mem_heldNow.mp hy
   rcases h2 with ⟨_,q⟩ | ⟨q,_⟩
   ·exact hb _ (List.mem_filter.mp (mem_toS.mp q)).1 h1
   ·rw[on] at q;cases q
  ·by_cases e:ring=0
   ·rw[if_pos e] at h
    exact d9 ok' .nil (by simp) oh (by intro x hx;simp at hx) x h
   ·rw[if_neg e] at h
    refine d9 ok' ap oall oh (fun x hx h1=>?_) x h
    rw[List.mem_map]
    rcases List.mem_append.mp hx with q | q
    ·exact⟨⟨toS x,true⟩,mem_heldNow.mpr ⟨h1,.inl ⟨rfl,mem_toS.mpr q⟩⟩,rfl⟩
    ·exact⟨⟨toS x,false⟩,mem_heldNow.mpr ⟨h1,.inr ⟨rfl,mem_toS.mpr q⟩⟩,rfl⟩
def ni (b:List St) (x:Held×Nat):Option (Nat×Nat):=if x.1.on=true then some (b.idxOf (pr x.1),x.2) else none
def ties (b h:List Held):List (Nat×Nat):=h.zipIdx.filterMap (ni (b.map pr))
theorem okHeld.inj {h:List Held} (k:okHeld h):(h.map pr).Nodup:=by
 unfold List.Nodup
 rw[List.pairwise_map]
 refine k.by_.imp fun q e=>?_
 unfold cK at q
 have:(pr _).1=(pr _).1:=congrArg Prod.fst e
 exact absurd this (Nat.ne_of_lt q)
theorem stop_pr {a b:Held}:pr a=pr b↔a.halt_=b.halt_:=by
 obtain⟨⟨c,f⟩,o⟩:=a
 obtain⟨⟨c',f'⟩,o'⟩:=b
 simp[pr]
theorem idxOf_at {α:Type} [BEq α] [LawfulBEq α]:∀{l:List α}{a:α},a∈l->l[l.idxOf a]?=some a
 | b::l,a,h=>by
  rw[List.idxOf_cons]
  by_cases e:b=a
  ·subst e
   simp
  ·have:(b==a)=false:=by simp[e]
   rw[this]
   rcases List.mem_cons.mp h with q | q
   ·exact absurd q.symm e
   ·simpa using idxOf_at q
theorem vi {α:Type}{l:List α} (h:l.Nodup) {i j:Nat}{a:α} (hi:l[i]?=some a) (hj:l[j]?=some a):i=j:=by
 have h1:=(List.getElem?_eq_some_iff.mp hi)
 have h2:=(List.getElem?_eq_some_iff.mp hj)
 obtain⟨l1,e1⟩:=h1
 obtain⟨l2,e2⟩:=h2
 have hp:=List.pairwise_iff_getElem.mp h
 rcases Nat.lt_trichotomy i j with q | q | q
 ·exact absurd (e1.trans e2.symm) (hp i j l1 l2 q)
 ·exact q
 ·exact absurd (e2.trans e1.symm) (hp j i l2 l1 q)
theorem keeps_ties {h k:List Held}{g e:Grip} (oh:okHeld h) (f:Follows h k) (hg:g.fingers.length=h.length) (he:e.fingers.length=k.length):keeps h k g e=(ties h k).all fun t=>g.fingers[t.1]?==e.fingers[t.2]?:=by
 rw[Bool.eq_iff_iff]
 unfold keeps
 rw[List.all_eq_true,List.all_eq_true]
 constructor
 ·intro q t ht
  unfold ties at ht
  obtain⟨⟨x,j⟩,hx,e1⟩:=List.mem_filterMap.mp ht
  unfold ni at e1
  by_cases on:x.on=true
  ·rw[if_pos on] at e1
   cases e1
   have hxj:k[j]?=some x:=by
    have:=List.mem_zipIdx_iff_getElem?.mp hx
    simpa using this
   have hj:=(List.getElem?_eq_some_iff.mp hxj).1
   have hej:e.fingers[j]?=some (e.fingers[j]'(by omega)):=List.getElem?_eq_getElem _
   have hz:(x,e.fingers[j]'(by omega))∈k.zip e.fingers:=by
    refine List.mem_of_getElem? (i:=j) ?_
    rw[List.getElem?_zip_eq_some]
    exact⟨hxj,hej⟩
   have q1:=q _ hz
   rw[on] at q1
   simp only[Bool.not_true,Bool.false_or] at q1
   rw[List.any_eq_true] at q1
   obtain⟨y,hy,ey⟩:=q1
   rw[Bool.and_eq_true,beq_iff_eq,beq_iff_eq] at ey
   obtain⟨i,hi⟩:=List.mem_iff_getElem?.mp hy
   unfold Grip.on at hi
   rw[List.getElem?_zip_eq_some] at hi
   obtain⟨hi1,hi2⟩:=hi
   rw[List.getElem?_map] at hi1
   obtain⟨z,hz1,hz2⟩:=Option.map_eq_some_iff.mp hi1
   have ez:pr z=pr x:=stop_pr.mpr (hz2.trans ey.1)
   have hm:(h.map pr)[i]?=some (pr x):=by rw[List.getElem?_map,hz1];exact congrArg some ez
   have hidx:=idxOf_at (List.mem_of_getElem? hm)
   have:=vi oh.inj hidx hm
   show (g.fingers[(h.map pr).idxOf (pr x)]?==e.fingers[j]?)=true
   rw[this,hi2,hej,ey.2]
   simp
  ·rw[if_neg on] at e1
   cases e1
 ·intro q y hy
  obtain⟨x,fj⟩:=y
  obtain⟨j,hj⟩:=List.mem_iff_getElem?.mp hy
  rw[List.getElem?_zip_eq_some] at hj
  obtain⟨hj1,hj2⟩:=hj
  cases on:x.on with
  | false=>rfl
  | true =>
   show (!true || _)=true
   simp only[Bool.not_true,Bool.false_or]
   have hm:=f x (List.mem_of_getElem? hj1) on
   have hidx:=idxOf_at hm
   have ht:((h.map pr).idxOf (pr x),j)∈ties h k:=by
    unfold ties
    refine List.mem_filterMap.mpr ⟨(x,j),?_,?_⟩
    ·refine List.mem_zipIdx_iff_getElem?.mpr ?_
     simpa using hj1
    ·unfold ni
     rw[if_pos on]
   have q1:=q _ ht
   rw[beq_iff_eq] at q1
   have q2:g.fingers[(h.map pr).idxOf (pr x)]?=some fj:=q1.trans hj2
   rw[List.any_eq_true]
   generalize (h.map pr).idxOf (pr x)=i at hidx q2
   rw[List.getElem?_map] at hidx
   obtain⟨z,hz1,hz2⟩:=Option.map_eq_some_iff.mp hidx
   refine⟨(z.halt_,fj),?_,?_⟩
   ·refine List.mem_of_getElem? (i:=i) ?_
    unfold Grip.on
    rw[List.getElem?_zip_eq_some]
    exact⟨by rw[List.getElem?_map,hz1];rfl,q2⟩
   ·rw[Bool.and_eq_true,beq_iff_eq,beq_iff_eq]
    exact⟨stop_pr.mp hz2,rfl⟩
theorem tie_in {b h:List Held} (f:Follows b h) {t:Nat×Nat} (ht:t∈ties b h):t.1<b.length/\t.2<h.length:=by
 unfold ties at ht
 obtain⟨⟨x,j⟩,hx,e1⟩:=List.mem_filterMap.mp ht
 unfold ni at e1
 by_cases on:x.on=true
 ·rw[if_pos on] at e1
  cases e1
  have hxj:h[j]?=some x:=by
   have:=List.mem_zipIdx_iff_getElem?.mp hx
   simpa using this
  refine⟨?_,(List.getElem?_eq_some_iff.mp hxj).1⟩
  have:=(List.getElem?_eq_some_iff.mp (idxOf_at (f x (List.mem_of_getElem? hxj) on))).1
  simpa using this
 ·rw[if_neg on] at e1
  cases e1
theorem ties_snoc {b:List Held}{h:List Held}{i:Nat}{x:Held} (hx:h[i]?=some x):ties b (h.take (i+1))=ties b (h.take i)++(if x.on=true then [((b.map pr).idxOf (pr x),i)] else []):=by
 have hi:=(List.getElem?_eq_some_iff.mp hx).1
 have e:h.take (i+1)=h.take i++[x]:=by
  rw[List.take_add_one,hx]
  rfl
 unfold ties
 rw[e,List.zipIdx_append,List.filterMap_append]
 congr 1
 rw[List.length_take,Nat.min_eq_left (Nat.le_of_lt hi),Nat.zero_add]
 show ([(x,i)]:List (Held×Nat)).filterMap _=_
 unfold ni
 by_cases on:x.on=true
 ·simp[on]
 ·simp[on]
theorem hJ (p:Nat) (s:Held):∀h:List Held,choices p (h++[s])=(choices p h).flatMap fun l=>([1,2,3,4].filter fun f=>reaches p f s.halt_.fret).map fun f=>l++[f]
 | []=>by
  show ([1,2,3,4].filter fun f=>reaches p f s.halt_.fret).flatMap (fun f=>[[f]])=([[]]:List (List Nat)).flatMap _
  rw[List.flatMap_cons,List.flatMap_nil,List.append_nil]
  show _=([1,2,3,4].filter fun f=>reaches p f s.halt_.fret).map fun f=>[f]
  generalize ([1,2,3,4].filter fun f=>reaches p f s.halt_.fret)=L
  induction L with
  | nil=>rfl
  | cons a L ih=>rw[List.flatMap_cons,ih];rfl
 | a::h=>by
  have ih:=hJ p s h
  show ([1,2,3,4].filter fun f=>reaches p f a.halt_.fret).flatMap (fun f=>(choices p (h++[s])).map fun l=>f::l)=(([1,2,3,4].filter fun f=>reaches p f a.halt_.fret).flatMap fun f=>(choices p h).map fun l=>f::l).flatMap _
  rw[ih,List.flatMap_assoc]
  refine bH fun f _=>?_
  rw[List.map_flatMap,List.flatMap_map]
  refine bH fun l _=>?_
  rw[List.map_map]
  rfl
theorem eY (x:Stop×Nat):∀l:List (Stop×Nat),allTogether (l++[x])=(allTogether l&&l.all fun y=>together y x)
 | []=>rfl
 | a::l=>by
  have ih:=eY x l
  show ((l++[x]).all (together a)&&allTogether (l++[x]))=((l.all (together a)&&allTogether l)&&(together a x&&l.all fun y=>together y x))
  rw[ih,List.all_append]
  simp only[List.all_cons,List.all_nil,Bool.and_true]
  cases l.all (together a) <;> cases together a x <;> cases allTogether l <;> cases (l.all fun y=>together y x) <;> rfl
def more (p:Nat) (h:List Held) (s:Held) (l:List Nat):List (List Nat):=(([1,2,3,4].filter fun f=>reaches p f s.halt_.fret).filter fun f=>(pairs h l).all fun y=>together y (s.halt_,f)).map fun f=>l++[f]
theorem gripsAt_snoc (p:Nat) (h:List Held) (s:Held):gripsAt p (h++[s])=(gripsAt p h).flatMap (more p h s):=by
 unfold gripsAt
 rw[hJ,cJ,cI]
 refine bH fun l hl=>?_
 obtain⟨hlen,_⟩:=choices_mem.mp hl
 rw[List.filter_map]
 have e:∀f,allTogether (pairs (h++[s]) (l++[f]))=(allTogether (pairs h l)&&(pairs h l).all fun y=>together y (s.halt_,f)):=fun f=>by
  have:pairs (h++[s]) (l++[f])=pairs h l++[(s.halt_,f)]:=by
   unfold pairs
   rw[List.map_append,List.zip_append (by rw[List.length_map];exact hlen.symm)]
   rfl
  rw[this,eY]
 cases hq:allTogether (pairs h l) with
 | true =>
  rw[if_pos rfl]
  unfold more
  congr 1
  refine List.filter_congr fun f _=>?_
  show allTogether (pairs (h++[s]) (l++[f]))=_
  rw[e,hq,Bool.true_and]
 | false =>
  rw[if_neg (by simp)]
  rw[List.map_eq_nil_iff,List.filter_eq_nil_iff]
  intro f _
  show ¬allTogether (pairs (h++[s]) (l++[f]))=true
  rw[e,hq]
  simp
theorem gripsAt_len {p:Nat}{h:List Held}{l:List Nat} (hl:l∈gripsAt p h):l.length=h.length:=(choices_mem.mp (List.mem_filter.mp hl).1).1
theorem fo (p:Nat):∀h:List Held,(choices p h).length<=4 ^ h.length
 | []=>Nat.le_refl _
 | s::r=>by
  have ih:=fo p r
  show (([1,2,3,4].filter fun f=>reaches p f s.halt_.fret).flatMap _).length<=_
  have h4:([1,2,3,4].filter fun f=>reaches p f s.halt_.fret).length<=4:=List.length_filter_le _ _
  generalize ([1,2,3,4].filter fun f=>reaches p f s.halt_.fret)=L at h4
  have:∀L:List Nat,(L.flatMap fun f=>(choices p r).map fun l=>f::l).length=L.length * (choices p r).length:=by
   intro L
   induction L with
   | nil=>simp
   | cons a L ihL=>rw[List.flatMap_cons,List.length_append,ihL,List.length_map,List.length_cons,Nat.succ_mul];omega
  rw[this,List.length_cons,Nat.pow_succ,Nat.mul_comm (4 ^ r.length)]
  exact Nat.mul_le_mul h4 ih
theorem gripsAt_count {p:Nat}{h:List Held} (hl:h.length<=6):(gripsAt p h).length<=4096:=by
 unfold gripsAt
 refine Nat.le_trans (List.length_filter_le _ _) (Nat.le_trans (fo p h) ?_)
 exact Nat.le_trans (Nat.pow_le_pow_right (by decide) hl) (by decide)
section
variable {α:Type}
def own (f:Nat) (a:List α) (b:List Nat):List α:=((a.zip b).filter fun x=>x.2==f).map fun x=>x.1
theorem jl {f:Nat}:∀{a:List α}{b:List Nat},b.length=a.length->((own f a b).isEmpty=true↔f∉b)
 | [],[],_=>by simp[own]
 | [],_::_,h=>by simp at h
 | _::_,[],h=>by simp at h
 | x::a,y::b,h=>by
  have ih:=jl (f:=f) (a:=a) (b:=b) (by simpa using h)
  unfold own at ih ⊢
  rw[List.zip_cons_cons,List.filter_cons]
  by_cases e:y=f
  ·subst e
   simp
  ·have hb:((x,y).2==f)=false:=by simp[e]
   rw[hb,if_neg (by simp),ih]
   simp
   intro _ q
   exact e q.symm
theorem nP {f:Nat}:∀{a:List α}{b:List Nat}{s:α}{r:List α},own f a b=s::r->a[b.idxOf f]?=some s
 | [],b,s,r,h=>by simp[own] at h
 | x::a,[],s,r,h=>by simp[own] at h
 | x::a,y::b,s,r,h=>by
  have ih:=nP (f:=f) (a:=a) (b:=b) (s:=s) (r:=r)
  unfold own at ih h
  rw[List.zip_cons_cons,List.filter_cons] at h
  by_cases e:y=f
  ·subst e
   simp at h
   rw[List.idxOf_cons]
   simp[h.1]
  ·have hb:((x,y).2==f)=false:=by simp[e]
   rw[hb,if_neg (by simp)] at h
   rw[List.idxOf_cons]
   have:(y==f)=false:=by simp[e]
   rw[this]
   simpa using ih h
theorem qQ {f:Nat}:∀{a:List α}{b:List Nat},b.length=a.length->(own f a b).length=b.count f
 | [],[],_=>by simp[own]
 | [],_::_,h=>by simp at h
 | _::_,[],h=>by simp at h
 | x::a,y::b,h=>by
  have ih:=qQ (f:=f) (a:=a) (b:=b) (by simpa using h)
  unfold own at ih ⊢
  rw[List.zip_cons_cons,List.filter_cons,List.count_cons]
  by_cases e:y=f
  ·subst e
   simpa using ih
  ·have hb:((x,y).2==f)=false:=by simp[e]
   have hc:(y==f)=false:=by simp[e]
   rw[hb,if_neg (by simp),if_neg (by simp),ih]
   rfl
end
theorem gc (g:Grip) (h:List Held) (f:Nat):g.places h f=own f (h.map Held.halt_) g.fingers:=rfl
theorem eZ {f:Nat} (hf:f≠1):∀{l:List (Stop×Nat)},allTogether l=true->(l.filter fun x=>x.2==f).length<=1
 | [],_=>by simp
 | x::l,h=>by
  have h':(l.all (together x)&&allTogether l)=true:=h
  rw[Bool.and_eq_true,List.all_eq_true] at h'
  have ih:=eZ hf h'.2
  rw[List.filter_cons]
  by_cases e:x.2=f
  ·have hb:(x.2==f)=true:=by simp[e]
   rw[hb,if_pos rfl]
   have:l.filter (fun x=>x.2==f)=[]:=by
    rw[List.filter_eq_nil_iff]
    intro y hy q
    have q':y.2=f:=by simpa using q
    have:=h'.1 y hy
    unfold together at this
    rw[if_pos (e.trans q'.symm)] at this
    rw[Bool.and_eq_true] at this
    have:x.2=1:=by simpa using this.1
    exact hf (e.symm.trans this)
   rw[this]
   simp
  ·have hb:(x.2==f)=false:=by simp[e]
   rw[hb,if_neg (by simp)]
   exact ih
def fingC (w:Weights) (g:Grip) (h:List Held) (f:Nat):Nat:=if f∈g.fingers then weight w f+weight w 5 * diff (((h.map pr)[g.fingers.idxOf f]?).getD (0,0)).2 (g.pos+f-1) else 0
def gripC (w:Weights) (h:List Held) (g:Grip):Nat:=([1,2,3,4].map (fingC w g h)).sum+if 1<g.fingers.count 1 then weight w 6 else 0
theorem ok_all {g:Grip}{h:List Held} (k:g.ok h=true):1<=g.pos/\g.pos<=15/\g.fingers.length=h.length/\allTogether (g.on h)=true:=by
 unfold Grip.ok POSITIONS at k
 simp only[Bool.and_eq_true,decide_eq_true_eq,beq_iff_eq] at k
 exact⟨k.1,k.2.1,k.2.2.1,k.2.2.2.2⟩
theorem tL {w:Weights}{g:Grip}{h:List Held} (k:g.ok h=true) (f:Nat):fingerCost w g h f=fingC w g h f+if f=1/\1<g.fingers.count 1 then weight w 6 else 0:=by
 obtain⟨_,_,hl,ht⟩:=ok_all k
 have hl':g.fingers.length=(h.map Held.halt_).length:=by rw[List.length_map];exact hl
 unfold fingerCost
 rw[gc]
 have h1:=jl (f:=f) hl'
 have h3:=qQ (f:=f) hl'
 cases ho:own f (h.map Held.halt_) g.fingers with
 | nil =>
  rw[ho] at h1 h3
  have hn:f∉g.fingers:=h1.mp rfl
  unfold fingC
  rw[if_neg hn]
  show 0=0+_
  rw[if_neg]
  rintro⟨rfl,q⟩
  rw[← h3] at q
  simp at q
 | cons s r =>
  rw[ho] at h1 h3
  have hn:f∈g.fingers:=by
   refine Classical.byContradiction fun q=>?_
   have:=h1.mpr q
   simp at this
  have h2:=nP ho
  unfold fingC
  rw[if_pos hn]
  have e2:(((h.map pr)[g.fingers.idxOf f]?).getD (0,0)).2=s.fret:=by
   rw[List.getElem?_map] at h2 ⊢
   obtain⟨z,hz1,hz2⟩:=Option.map_eq_some_iff.mp h2
   rw[hz1]
   rw[← hz2]
   rfl
  rw[e2]
  show weight w f+weight w 5 * diff s.fret (g.pos+f-1)+_=_
  congr 1
  by_cases hf:f=1
  ·subst hf
   rw[← h3]
   cases r with
   | nil=>simp
   | cons b r=>simp
  ·have e0:(if f=1/\1<g.fingers.count 1 then weight w 6 else 0)=0:=if_neg fun q=>hf q.1
   rw[e0]
   have:=eZ hf ht
   have e3:(own f (h.map Held.halt_) g.fingers).length<=1:=by
    unfold own
    rw[List.length_map]
    exact this
   rw[ho] at e3
   cases r with
   | nil=>simp
   | cons b r=>simp at e3
theorem grip_cost {w:Weights}{g:Grip}{h:List Held} (k:g.ok h=true):gripCost w h g=gripC w h g:=by
 unfold gripCost gripC
 simp only[List.map_cons,List.map_nil,List.sum_cons,List.sum_nil,tL k]
 simp only[Nat.reduceEqDiff,false_and,if_false,true_and]
 omega
def jumpC (h k:List Held) (g e:Grip) (f:Nat):Bool:=if f∉g.fingers∨f∉e.fingers then false else !((own f (k.map pr) e.fingers).any fun s=>decide (s∈own f (h.map pr) g.fingers))
theorem qP {α β:Type} (u:α->β) (f:Nat):∀(a:List α) (b:List Nat),own f (a.map u) b=(own f a b).map u
 | [],b=>by simp[own]
 | x::a,[]=>by simp[own]
 | x::a,y::b=>by
  have ih:=qP u f a b
  unfold own at ih ⊢
  rw[List.map_cons,List.zip_cons_cons,List.zip_cons_cons,List.filter_cons,List.filter_cons]
  by_cases e:y=f
  ·subst e
   simpa using ih
  ·have hb:(y==f)=false:=by simp[e]
   simpa[hb] using ih
theorem sZ {h k:List Held}{g e:Grip} (hg:g.fingers.length=h.length) (he:e.fingers.length=k.length) (f:Nat):jumps h k g e f=jumpC h k g e f:=by
 unfold jumps jumpC
 rw[gc,gc]
 have h1:=jl (f:=f) (a:=h.map Held.halt_) (b:=g.fingers) (by rw[List.length_map];exact hg)
 have h2:=jl (f:=f) (a:=k.map Held.halt_) (b:=e.fingers) (by rw[List.length_map];exact he)
 by_cases e1:f∉g.fingers
 ·rw[if_pos (.inl e1),h1.mpr e1]
  rfl
 ·by_cases e2:f∉e.fingers
  ·rw[if_pos (.inr e2),h2.mpr e2]
   simp
  ·rw[if_neg (fun q=>q.elim e1 e2)]
   have e3:(own f (h.map Held.halt_) g.fingers).isEmpty=false:=by
    cases hq:(own f (h.map Held.halt_) g.fingers).isEmpty with
    | false=>rfl
    | true=>exact absurd (h1.mp hq) e1
   have e4:(own f (k.map Held.halt_) e.fingers).isEmpty=false:=by
    cases hq:(own f (k.map Held.halt_) e.fingers).isEmpty with
    | false=>rfl
    | true=>exact absurd (h2.mp hq) e2
   rw[e3,e4]
   simp only[Bool.not_false,Bool.true_and]
   congr 1
   have em:∀(h:List Held) (b:List Nat),own f (h.map pr) b=(own f (h.map Held.halt_) b).map fun s=>((s.course,s.fret):St):=fun h b=>by
    rw[← qP,List.map_map]
    rfl
   rw[em,em]
   generalize own f (h.map Held.halt_) g.fingers=A
   generalize own f (k.map Held.halt_) e.fingers=B
   rw[Bool.eq_iff_iff,List.any_eq_true,List.any_eq_true]
   constructor
   ·rintro⟨s,hs,hc⟩
    have hc':s∈B:=by simpa using hc
    exact⟨(s.course,s.fret),List.mem_map.mpr ⟨s,hc',rfl⟩,decide_eq_true (List.mem_map.mpr ⟨s,hs,rfl⟩)⟩
   ·rintro⟨s,hs,hc⟩
    obtain⟨b,hb,rfl⟩:=List.mem_map.mp hs
    obtain⟨a,ha,ea⟩:=List.mem_map.mp (of_decide_eq_true hc)
    have:a=b:=by
     obtain⟨a1,a2⟩:=a
     obtain⟨b1,b2⟩:=b
     simpa using ea
    subst this
    exact⟨a,ha,by simpa using hb⟩
def vH (w:Weights) (h k:List Held) (g e:Grip):Nat:=weight w 0 * diff g.pos e.pos+([1,2,3,4].map fun f=>if jumpC h k g e f=true then weight w 7 else 0).sum
theorem going_cost {w:Weights}{h k:List Held}{g e:Grip} (hg:g.fingers.length=h.length) (he:e.fingers.length=k.length):goingCost w h k g e=vH w h k g e:=by
 unfold goingCost vH
 congr 1
 rw[show (jumps h k g e)=jumpC h k g e from funext fun f=>sZ hg he f]
 generalize ([1,2,3,4]:List Nat)=L
 induction L with
 | nil=>simp
 | cons a L ih =>
  rw[List.filter_cons,List.map_cons,List.sum_cons,← ih]
  cases jumpC h k g e a with
  | true=>simp[Nat.mul_add,Nat.add_comm]
  | false=>simp
def cleanIn (S:List Nat) (n:Nat):Nat:=if n∈S then n else 63
def PS:List Nat:=[10,32,48,49,50,51,52,53,54,55,56,57,58]
def GP (c:UInt8):Nat:=cleanIn PS c.toNat
theorem iL {c:UInt8}{n:Nat} (h:n∈PS):GP c=n↔c.toNat=n:=by
 unfold GP cleanIn
 split
 ·rfl
 ·rename_i hc
  constructor
  ·intro e
   rw[← e] at h
   exact absurd h (by decide)
  ·intro e
   rw[e] at hc
   exact absurd h hc
def dig (n:Nat):Bool:=decide (48<=n)&&decide (n<=57)
theorem jo {n:Nat} (h:dig n=true):n∈PS:=by
 unfold dig at h
 simp at h
 have:n=48∨n=49∨n=50∨n=51∨n=52∨n=53∨n=54∨n=55∨n=56∨n=57:=by omega
 rcases this with rfl | rfl | rfl | rfl | rfl | rfl | rfl | rfl | rfl | rfl <;> decide
theorem vP (c:UInt8):dig (GP c)=(decide (48<=c)&&decide (c<=57)):=by
 have e:(decide (48<=c)&&decide (c<=57))=dig c.toNat:=by
  unfold dig
  have e1:(48<=c)↔(48<=c.toNat):=UInt8.le_iff_toNat_le
  have e2:(c<=57)↔(c.toNat<=57):=UInt8.le_iff_toNat_le
  simp only[e1,e2]
 rw[e]
 cases hd:dig c.toNat with
 | true=>rw[(iL (jo hd)).mpr rfl,hd]
 | false =>
  cases hg:dig (GP c) with
  | false=>rfl
  | true =>
   have:=(iL (c:=c) (jo hg)).mp rfl
   rw[this,hg] at hd
   cases hd
theorem yT {c:UInt8} (h:dig (GP c)=true):GP c=c.toNat:=((iL (jo h)).mp rfl).symm
def valN (d:List Nat):Nat:=d.foldl (fun n c=>10 * n+(c-48)) 0
def dB (t:List Nat):Option (Nat×List Nat):=let d:=t.takeWhile dig
 if d.isEmpty=true∨3<d.length∨(d.head?=some 48/\d≠[48]) then none else some (valN d,t.drop d.length)
theorem wg (t:List UInt8):(t.takeWhile fun (c:UInt8)=>48<=c&&c<=57).map GP=(t.map GP).takeWhile dig:=by
 induction t with
 | nil=>rfl
 | cons c t ih =>
  rw[List.map_cons,List.takeWhile_cons,List.takeWhile_cons,vP]
  cases (decide (48<=c)&&decide (c<=57)) with
  | true=>simp[ih]
  | false=>simp
theorem rj:∀(d:List UInt8) (n:Nat),(∀c∈d,dig (GP c)=true)->d.foldl (fun (n:Nat) (c:UInt8)=>10 * n+(c.toNat-48)) n=(d.map GP).foldl (fun n c=>10 * n+(c-48)) n
 | [],_,_=>rfl
 | c::d,n,h=>by
  rw[List.map_cons,List.foldl_cons,List.foldl_cons,yT (h c (by simp))]
  exact rj d _ fun x hx=>h x (by simp[hx])
theorem nj (t:List UInt8):(threeDigits t).map (fun z=>(z.1,z.2.map GP))=dB (t.map GP):=by
 unfold threeDigits dB
 have e:=wg t
 have hall:∀c∈(t.takeWhile fun (c:UInt8)=>48<=c&&c<=57),dig (GP c)=true:=by
  intro c hc
  rw[vP]
  have h2:∀(p:UInt8->Bool) (l:List UInt8),∀x∈l.takeWhile p,p x=true:=by
   intro p l
   induction l with
   | nil=>simp
   | cons a l ih =>
    intro x hx
    rw[List.takeWhile_cons] at hx
    split at hx
    ·rename_i ha
     rcases List.mem_cons.mp hx with rfl | q
     ·exact ha
     ·exact ih x q
    ·cases hx
  exact h2 _ _ c hc
 dsimp only
 rw[← e]
 generalize (t.takeWhile fun (c:UInt8)=>48<=c&&c<=57)=d at hall
 have e1:(d.map GP).isEmpty=d.isEmpty:=by cases d <;> rfl
 have e2:(d.map GP).length=d.length:=List.length_map _
 have h48:∀c:UInt8,GP c=48↔c=48:=fun c=>by
  rw[iL (by decide)]
  constructor
  ·intro q
   exact UInt8.toNat_inj.mp q
  ·rintro rfl
   rfl
 have e3:((d.map GP).head?=some 48)↔(d.head?=some 48):=by
  cases d with
  | nil=>simp
  | cons c d=>simp[h48]
 have e4:(d.map GP≠[48])↔(d≠[48]):=by
  cases d with
  | nil=>simp
  | cons c d =>
   cases d with
   | nil=>simp[h48]
   | cons b d=>simp
 rw[e1,e2]
 simp only[e3,e4]
 split
 ·rfl
 ·show some _=some _
  rw[rj _ _ hall]
  dsimp only
  rw[List.map_drop]
  rfl
def headN (c:Nat):List Nat:=[48+c,58]
def dh:List Held->List Nat->Option (List Nat)
 | [],t=>if t.isEmpty=true then some [] else none
 | s::r,t=>if (32::headN s.halt_.course).isPrefixOf t=true then (match dB (t.drop 3) with
   | none=>none
   | some (f,u)=>(dh r u).map fun l=>f::l) else none
theorem p7 {c:Nat} (h1:1<=c) (h6:c<=6):LuteTab.decimal c=[UInt8.ofNat (48+c)]:=by
 have:c=1∨c=2∨c=3∨c=4∨c=5∨c=6:=by omega
 rcases this with rfl | rfl | rfl | rfl | rfl | rfl <;> decide +kernel
theorem uN:∀(p t:List UInt8),(∀x∈p,x.toNat∈PS)->(p.isPrefixOf t)=((p.map UInt8.toNat).isPrefixOf (t.map GP))
 | [],t,_=>by simp
 | a::p,[],_=>rfl
 | a::p,c::t,h=>by
  have ih:=uN p t fun x hx=>h x (by simp[hx])
  show (a==c&&p.isPrefixOf t)=(a.toNat==GP c&&(p.map UInt8.toNat).isPrefixOf (t.map GP))
  rw[ih]
  congr 1
  rw[Bool.eq_iff_iff,beq_iff_eq,beq_iff_eq]
  have:=iL (c:=c) (h a (by simp))
  constructor
  ·rintro rfl
   exact (this.mpr rfl).symm
  ·intro q
   exact UInt8.toNat_inj.mp (this.mp q.symm).symm
theorem rl:∀(h:List Held) (t:List UInt8),(∀x∈h,1<=x.halt_.course/\x.halt_.course<=6)->fingersOf h t=dh h (t.map GP)
 | [],t,_=>by
  unfold fingersOf dh
  cases t <;> rfl
 | s::r,t,ok=>by
  obtain⟨h1,h6⟩:=ok s (by simp)
  have ih:=fun u=>rl r u fun x hx=>ok x (by simp[hx])
  unfold fingersOf dh
  dsimp only
  rw[p7 h1 h6]
  have e0:(UInt8.ofNat (48+s.halt_.course)).toNat=48+s.halt_.course:=by simp[UInt8.toNat_ofNat];omega
  have hp:(32::([UInt8.ofNat (48+s.halt_.course)]++[58]):List UInt8).isPrefixOf t=(32::headN s.halt_.course).isPrefixOf (t.map GP):=by
   rw[uN]
   ·show ([32,(UInt8.ofNat (48+s.halt_.course)).toNat,58]:List Nat).isPrefixOf _=_
    rw[e0]
    rfl
   ·intro x hx
    rcases List.mem_cons.mp hx with rfl | hx
    ·decide
    rcases List.mem_cons.mp hx with rfl | hx
    ·rw[e0]
     exact jo (by unfold dig;simp;omega)
    rcases List.mem_cons.mp hx with rfl | hx
    ·decide
    ·cases hx
  rw[hp]
  split
  ·have e3:=nj (t.drop 3)
   rw[List.map_drop] at e3
   rw[← e3]
   show (match threeDigits (t.drop 3) with | none=>none | some (f,u)=>_)=_
   cases threeDigits (t.drop 3) with
   | none=>rfl
   | some z =>
    obtain⟨f,u⟩:=z
    show (fingersOf r u).map _=(dh r (u.map GP)).map _
    rw[ih]
  ·rfl
def qT (h:List Held) (t:List Nat):Option Grip:=match dB t with
 | none=>none
 | some (p,u)=>(dh h u).map fun l=>⟨p,l⟩
theorem xn (h:List Held) (t:List UInt8) (ok:∀x∈h,1<=x.halt_.course/\x.halt_.course<=6):gripOf h t=qT h (t.map GP):=by
 unfold gripOf qT
 rw[← nj]
 cases threeDigits t with
 | none=>rfl
 | some z =>
  obtain⟨p,u⟩:=z
  show (fingersOf h u).map _=(dh h (u.map GP)).map _
  rw[rl h u ok]
def isNum (t:List Nat):Bool:=!t.isEmpty&&(t.all dig&&(decide (t.length<=3)&&(decide (t=[48]) || !decide (t.head?=some 48))))
def mFing (part:List Nat) (c:Nat):Option Nat:=if (headN c).isPrefixOf part=true then (if isNum (part.drop 2)=true then some (valN (part.drop 2)) else none) else none
def mFings:List Held->List (List Nat)->Option (List Nat)
 | [],[]=>some []
 | s::r,p::ps=>match mFing p s.halt_.course with
  | none=>none
  | some f=>(mFings r ps).map fun l=>f::l
 | _,_=>none
def mRow (h:List Held) (row:List Nat):Option Grip:=match spl 32 row with
 | []=>none
 | p::ps=>if isNum p=true then (mFings h ps).map fun l=>⟨valN p,l⟩ else none
theorem ue {p R:List Nat} (hp:p.all dig=true) (hR:R=[]∨∃r,R=32::r):(p++R).takeWhile dig=p:=by
 induction p with
 | nil =>
  rcases hR with rfl | ⟨r,rfl⟩
  ·rfl
  ·rfl
 | cons a p ih =>
  rw[List.all_cons,Bool.and_eq_true] at hp
  rw[List.cons_append,List.takeWhile_cons,hp.1,if_pos rfl,ih hp.2]
theorem ud {p R:List Nat} (hp:p.all dig=false):∃a c b,p=a++c::b/\dig c=false/\(p++R).takeWhile dig=a:=by
 induction p with
 | nil=>cases hp
 | cons x p ih =>
  cases hx:dig x with
  | false=>exact⟨[],x,p,rfl,hx,by rw[List.cons_append,List.takeWhile_cons,hx];rfl⟩
  | true =>
   rw[List.all_cons,hx,Bool.true_and] at hp
   obtain⟨a,c,b,e1,e2,e3⟩:=ih hp
   exact⟨x::a,c,b,by rw[e1];rfl,e2,by rw[List.cons_append,List.takeWhile_cons,hx,if_pos rfl,e3]⟩
theorem three_part {p R:List Nat} (h32:32∉p) (hR:R=[]∨∃r,R=32::r):(isNum p=true/\dB (p++R)=some (valN p,R))∨(isNum p=false/\(dB (p++R)=none∨∃v c u,dB (p++R)=some (v,c::u)/\c≠32)):=by
 cases ha:p.all dig with
 | true =>
  unfold dB isNum
  rw[ue ha hR,ha]
  cases hp:p with
  | nil=>exact .inr ⟨rfl,.inl rfl⟩
  | cons a q =>
   rw[← hp]
   have he:p.isEmpty=false:=by rw[hp];rfl
   rw[he]
   by_cases h3:3<p.length
   ·refine .inr ⟨?_,.inl ?_⟩
    ·rw[decide_eq_false (by omega:¬p.length<=3)]
     rfl
    ·dsimp only
     rw[if_pos (.inr (.inl h3))]
   ·rw[decide_eq_true (by omega:p.length<=3)]
    by_cases h0:p.head?=some 48/\p≠[48]
    ·refine .inr ⟨?_,.inl ?_⟩
     ·simp[h0.1,h0.2]
     ·dsimp only
      rw[if_pos (.inr (.inr h0))]
    ·refine .inl ⟨?_,?_⟩
     ·by_cases h4:p=[48]
      ·simp[h4]
      ·have:¬p.head?=some 48:=fun q=>h0 ⟨q,h4⟩
       simp[this]
     ·dsimp only
      rw[if_neg (by rintro (q | q | q);rw[he] at q;cases q;exact h3 q;exact h0 q)]
      simp
 | false =>
  have hn:isNum p=false:=by unfold isNum;rw[ha];simp
  refine .inr ⟨hn,?_⟩
  obtain⟨a,c,b,e1,e2,e3⟩:=ud (R:=R) ha
  unfold dB
  rw[e3]
  dsimp only
  split
  ·exact .inl rfl
  ·refine .inr ⟨valN a,c,b++R,?_,?_⟩
   ·rw[e1]
    simp
   ·intro q
    subst q
    exact h32 (by rw[e1];simp)
theorem oH (h:List Held) {c:Nat}{u:List Nat} (hc:c≠32):dh h (c::u)=none:=by
 cases h with
 | nil=>rfl
 | cons s r =>
  unfold dh
  have:(32::headN s.halt_.course).isPrefixOf (c::u)=false:=by
   show (32==c&&_)=false
   have:((32:Nat)==c)=false:=by simp;exact fun q=>hc q.symm
   rw[this]
   rfl
  rw[this]
  rfl
theorem uM {c:Nat} (hc:c<=6) {p R:List Nat} (hR:R=[]∨∃r,R=32::r):(headN c).isPrefixOf (p++R)=(headN c).isPrefixOf p:=by
 unfold headN
 match p with
 | [] =>
  rcases hR with rfl | ⟨r,rfl⟩
  ·rfl
  ·show ((48+c)==32&&_)=false
   have:((48+c)==32)=false:=by simp;omega
   rw[this]
   rfl
 | [a] =>
  rcases hR with rfl | ⟨r,rfl⟩
  ·rfl
  ·show ((48+c)==a&&((58:Nat)==32&&_))=((48+c)==a&&false)
   rfl
 | a::b::p =>
  show ((48+c)==a&&((58:Nat)==b&&true))=((48+c)==a&&((58:Nat)==b&&true))
  rfl
theorem i7:∀(h:List Held) (ps:List (List Nat)),(∀x∈h,x.halt_.course<=6)->(∀p∈ps,32∉p)->dh h (ps.flatMap (32::·))=mFings h ps
 | [],[],_,_=>rfl
 | [],p::ps,_,_=>rfl
 | s::r,[],_,_=>rfl
 | s::r,p::ps,ok,h32=>by
  have ih:=i7 r ps (fun x hx=>ok x (by simp[hx])) fun x hx=>h32 x (by simp[hx])
  have hR:ps.flatMap (32::·)=[]∨∃q,ps.flatMap (32::·)=32::q:=by
   cases ps with
   | nil=>exact .inl rfl
   | cons a ps=>exact .inr ⟨_,rfl⟩
  have h32p:=h32 p (by simp)
  have hc:=ok s (by simp)
  have hf:(p::ps).flatMap (32::·)=32::(p++ps.flatMap (32::·)):=rfl
  rw[hf]
  generalize ps.flatMap (32::·)=R at ih hR
  unfold dh mFings
  have e1:(32::headN s.halt_.course).isPrefixOf (32::(p++R))=(headN s.halt_.course).isPrefixOf p:=by
   show ((32:Nat)==32&&_)=_
   rw[uM hc hR]
   rfl
  rw[e1]
  unfold mFing
  cases hp:(headN s.halt_.course).isPrefixOf p with
  | false=>rfl
  | true =>
   simp only[if_true]
   obtain⟨q,rfl⟩:∃q,p=(48+s.halt_.course)::58::q:=by
    have:=List.isPrefixOf_iff_prefix.mp hp
    obtain⟨t,ht⟩:=this
    exact⟨t,ht.symm⟩
   have e2:(32::(((48+s.halt_.course)::58::q)++R)).drop 3=q++R:=rfl
   have e3:((48+s.halt_.course)::58::q).drop 2=q:=rfl
   rw[e2,e3]
   have hq:32∉q:=fun z=>h32p (by simp[z])
   rcases three_part hq hR with ⟨n1,n2⟩ | ⟨n1,n2 | ⟨v,c,u,n2,n3⟩⟩
   ·rw[n1,n2]
    simp only[if_true]
    rw[ih]
   ·rw[n1,n2]
    rfl
   ·rw[n1,n2]
    simp only[]
    rw[oH r n3]
    rfl
theorem rY (h:List Held) (row:List Nat) (ok:∀x∈h,x.halt_.course<=6):qT h row=mRow h row:=by
 obtain⟨p,ps,e1,e2,h1,h2⟩:=cw 32 row
 unfold qT mRow
 rw[e1,e2]
 have ih:=i7 h ps ok h2
 have hR:ps.flatMap (32::·)=[]∨∃q,ps.flatMap (32::·)=32::q:=by
  cases ps with
  | nil=>exact .inl rfl
  | cons a ps=>exact .inr ⟨_,rfl⟩
 generalize ps.flatMap (32::·)=R at ih hR
 dsimp only
 rcases three_part h1 hR with ⟨n1,n2⟩ | ⟨n1,n2 | ⟨v,c,u,n2,n3⟩⟩
 ·rw[n1,n2]
  simp only[if_true]
  rw[ih]
 ·rw[n1,n2]
  rfl
 ·rw[n1,n2]
  simp only[]
  rw[oH h n3]
  rfl
def mEnded:Nat->List (List Held)->List (List Nat)->List Nat->Except Nat (List Grip)
 | i,hs,[],last=>if hs≠[]∨last≠[] then .error i else .ok []
 | i,[],_::_,_=>.error i
 | i,h::r,row::rs,last=>match mRow h row with
  | none=>.error i
  | some g=>(mEnded (i+1) r rs last).map fun l=>g::l
def mPlan (hs:List (List Held)) (cs:List Nat):Except Nat (List Grip):=mEnded 0 hs (spl 10 cs).dropLast ((spl 10 cs).getLastD [])
theorem rP {t:List UInt8} (h:(10:UInt8)∉t):t.takeWhile (fun (c:UInt8)=>c != 10)=t:=by
 induction t with
 | nil=>rfl
 | cons a t ih =>
  have ha:(a != 10)=true:=by
   simp
   exact fun q=>h (by simp[q])
  rw[List.takeWhile_cons,ha,if_pos rfl,ih fun q=>h (by simp[q])]
theorem uc {a r:List UInt8} (h:(10:UInt8)∉a):(a++10::r).takeWhile (fun (c:UInt8)=>c != 10)=a:=by
 induction a with
 | nil=>rfl
 | cons x a ih =>
  have hx:(x != 10)=true:=by
   simp
   exact fun q=>h (by simp[q])
  rw[List.cons_append,List.takeWhile_cons,hx,if_pos rfl,ih fun q=>h (by simp[q])]
theorem ui {n:Nat}{d:UInt8} (h:∀c,GP c=n↔c=d):∀l:List UInt8,spl n (l.map GP)=(spl d l).map (List.map GP)
 | []=>rfl
 | c::r=>by
  have ih:=ui h r
  by_cases hc:c=d
  ·simp[spl,hc,(h d).mpr rfl,ih]
  ·have hg:¬GP c=n:=fun q=>hc ((h c).mp q)
   simp only[List.map_cons,spl,hc,hg,if_false,ih]
   cases e:spl d r with
   | nil=>rfl
   | cons a l=>rfl
theorem kq:∀(hs:List (List Held)) (t:List UInt8) (i:Nat),(∀h∈hs,okHeld h)->planOf i hs t=mEnded i hs ((spl 10 t).map (List.map GP)).dropLast (((spl 10 t).map (List.map GP)).getLastD [])
 | [],t,i,_=>by
  unfold planOf
  rcases cut_ex (10:UInt8) t with h | ⟨a,r,e,h⟩
  ·rw[jw h]
   show _=mEnded i [] [] (t.map GP)
   unfold mEnded
   cases t with
   | nil=>rfl
   | cons c t=>simp
  ·rw[e,ji h]
   have hne:spl 10 r≠[]:=spl_ne _ _
   cases hs:spl 10 r with
   | nil=>exact absurd hs hne
   | cons b l =>
    show _=mEnded i [] (a.map GP::_) _
    unfold mEnded
    simp
 | h::hr,t,i,ok=>by
  have okh:=ok h (by simp)
  unfold planOf
  rcases cut_ex (10:UInt8) t with hf | ⟨a,r,e,hf⟩
  ·rw[jw hf,rP hf]
   show _=mEnded i (h::hr) [] (t.map GP)
   unfold mEnded
   simp
  ·rw[e,ji hf,uc hf]
   have hne:spl 10 r≠[]:=spl_ne _ _
   have ih:=kq hr r (i+1) fun x hx=>ok x (by simp[hx])
   have eg:gripOf h a=mRow h (a.map GP):=by
    rw[xn h a fun x hx=>⟨(okh.in_ x hx).1,(okh.in_ x hx).2.1⟩,rY h _ fun x hx=>(okh.in_ x hx).2.1]
   have ed:(a++10::r).drop a.length=10::r:=by simp
   dsimp only
   rw[ed,eg]
   cases hsp:spl 10 r with
   | nil=>exact absurd hsp hne
   | cons b l =>
    rw[hsp] at ih
    have e1:((a::b::l).map (List.map GP)).dropLast=a.map GP::((b::l).map (List.map GP)).dropLast:=rfl
    have e2:((a::b::l).map (List.map GP)).getLastD []=((b::l).map (List.map GP)).getLastD []:=by
     simp[List.getLastD,List.getLast?_cons_cons]
    rw[e1,e2]
    conv=>rhs;unfold mEnded
    cases mRow h (a.map GP) with
    | none=>rfl
    | some g =>
     show (planOf (i+1) hr r).map _=(mEnded (i+1) hr _ _).map _
     rw[ih]
theorem plan_read (hs:List (List Held)) (t:List UInt8) (ok:∀h∈hs,okHeld h):planOf 0 hs t=mPlan hs (t.map GP):=by
 rw[kq hs t 0 ok]
 unfold mPlan
 rw[ui (d:=10) fun c=>by
  rw[iL (by decide)]
  constructor
  ·intro q
   exact UInt8.toNat_inj.mp q
  ·rintro rfl
   rfl]
def faultF:Nat->List Held->Grip->List (List Held)->List Grip->Option Nat
 | i,h,g,k::r,e::l=>if e.ok k=false then some i else if keeps h k g e=false then some i else faultF (i+1) k e r l
 | _,_,_,_,_=>none
theorem wrong_fault:∀(i:Nat) (h:List Held) (g:Grip) (r:List (List Held)) (l:List Grip),l.length=r.length->wrongAt i (h::r) (g::l)=if g.ok h=false then some i else faultF (i+1) h g r l
 | i,h,g,[],[],_=>by
  show (if g.ok h=true then none else some i)=if g.ok h=false then some i else none
  cases g.ok h <;> rfl
 | i,h,g,k::r,e::l,hl=>by
  have ih:=wrong_fault (i+1) k e r l (by simpa using hl)
  show (if g.ok h=false then some i else if e.ok k=true/\keeps h k g e=false then some (i+1) else wrongAt (i+1) (k::r) (e::l))=_
  rw[ih]
  show _=if g.ok h=false then some i else if e.ok k=false then some (i+1) else if keeps h k g e=false then some (i+1) else faultF (i+1+1) k e r l
  cases g.ok h <;> cases e.ok k <;> cases keeps h k g e <;> rfl
 | i,h,g,[],e::l,hl=>by simp at hl
 | i,h,g,k::r,[],hl=>by simp at hl
def costF (w:Weights):List Held->Grip->List (List Held)->List Grip->Nat
 | h,g,k::r,e::l=>gripCost w k e+goingCost w h k g e+costF w k e r l
 | _,_,_,_=>0
theorem lY (w:Weights):∀(h:List Held) (g:Grip) (r:List (List Held)) (l:List Grip),l.length=r.length->costFrom w (h::r) (g::l)=gripCost w h g+costF w h g r l
 | h,g,[],[],_=>by
  show gripCost w h g=gripCost w h g+0
  omega
 | h,g,k::r,e::l,hl=>by
  have ih:=lY w k e r l (by simpa using hl)
  show gripCost w h g+goingCost w h k g e+costFrom w (k::r) (e::l)=gripCost w h g+(gripCost w k e+goingCost w h k g e+costF w k e r l)
  rw[ih]
  omega
 | h,g,[],e::l,hl=>by simp at hl
 | h,g,k::r,[],hl=>by simp at hl
theorem cost_cons (w:Weights) (h:List Held) (g:Grip) (r:List (List Held)) (l:List Grip) (hl:l.length=r.length):LuteHand.cost w (h::r) (g::l)=weight w 8 * (g.pos-1)+gripCost w h g+costF w h g r l:=by
 unfold LuteHand.cost
 rw[lY w h g r l hl]
 show weight w 8 * (g.pos-1)+_=_
 omega
theorem fault_ok:∀{i:Nat}{h:List Held}{g:Grip}{r:List (List Held)}{l:List Grip},l.length=r.length->faultF i h g r l=none->∀(j:Nat) (k:List Held) (e:Grip),r[j]?=some k->l[j]?=some e->e.ok k=true
 | i,h,g,[],[],_,_,j,k,e,hk,_=>by simp at hk
 | i,h,g,k0::r,e0::l,hl,hf,j,k,e,hk,he=>by
  have hf':(if e0.ok k0=false then some i else if keeps h k0 g e0=false then some i else faultF (i+1) k0 e0 r l)=none:=hf
  cases h1:e0.ok k0 with
  | false=>rw[if_pos h1] at hf';cases hf'
  | true =>
   rw[if_neg (by rw[h1];simp)] at hf'
   split at hf'
   ·cases hf'
   ·cases j with
    | zero =>
     simp at hk he
     rw[← hk,← he]
     exact h1
    | succ j=>exact fault_ok (by simpa using hl) hf' j k e (by simpa using hk) (by simpa using he)
 | i,h,g,[],e0::l,hl,_,_,_,_,_,_=>by simp at hl
 | i,h,g,k0::r,[],hl,_,_,_,_,_,_=>by simp at hl
theorem ended_len:∀{i:Nat}{hs:List (List Held)}{rows:List (List Nat)}{last:List Nat}{l:List Grip},mEnded i hs rows last=.ok l->l.length=hs.length
 | i,hs,[],last,l,h=>by
  unfold mEnded at h
  split at h
  ·cases h
  ·rename_i q
   cases h
   cases hs with
   | nil=>rfl
   | cons a hs=>exact absurd (.inl (by simp)) q
 | i,[],_::_,last,l,h=>by
  unfold mEnded at h
  cases h
 | i,h0::r,row::rs,last,l,h=>by
  unfold mEnded at h
  split at h
  ·cases h
  ·cases hm:mEnded (i+1) r rs last with
   | error e=>rw[hm] at h;cases h
   | ok m =>
    rw[hm] at h
    cases h
    have:=ended_len hm
    simp[this]
theorem mRow_len {h:List Held}{row:List Nat}{g:Grip} (e:mRow h row=some g):g.fingers.length=h.length:=by
 have aux:∀(h:List Held) (ps:List (List Nat)) (l:List Nat),mFings h ps=some l->l.length=h.length:=by
  intro h
  induction h with
  | nil =>
   intro ps l q
   cases ps with
   | nil=>cases q;rfl
   | cons p ps=>cases q
  | cons s r ih =>
   intro ps l q
   cases ps with
   | nil=>cases q
   | cons p ps =>
    unfold mFings at q
    split at q
    ·cases q
    ·obtain⟨m,hm,rfl⟩:=Option.map_eq_some_iff.mp q
     simp[ih ps m hm]
 unfold mRow at e
 split at e
 ·cases e
 ·split at e
  ·obtain⟨m,hm,rfl⟩:=Option.map_eq_some_iff.mp e
   exact aux _ _ _ hm
  ·cases e
def rdg (ring:Nat) (ns:List Nat):Except Int (List (List Held)):=if 65536<ns.length then .error (-2) else match mPiece (ns.map clean) with
 | none=>.error (-6)
 | some ls=>if 2<ring then .error (-1) else .ok (heldS ring [] ls)
theorem of_rdg {ns:List Nat} (hn:∀n∈ns,n<256) (ring:Nat) (f:List (List Held)->List Int):LuteE.of (ns.map UInt8.ofNat) ring f=match rdg ring ns with
  | .error z=>[z]
  | .ok hs=>f hs:=by
 rw[wQ hn]
 unfold rdg
 by_cases h:65536<ns.length
 ·rw[if_pos h,if_pos h]
 ·rw[if_neg h,if_neg h]
  cases hm:mPiece (ns.map clean) with
  | none=>rfl
  | some ls =>
   dsimp only
   by_cases h2:2<ring
   ·rw[if_pos h2,if_pos h2]
   ·rw[if_neg h2,if_neg h2,tD (by omega) (mPiece_ok hm).1]
theorem rdg_neg {ring:Nat}{ns:List Nat}{z:Int} (h:rdg ring ns=.error z):z<0:=by
 unfold rdg at h
 split at h
 ·cases h;decide
 ·split at h
  ·cases h;decide
  ·split at h
   ·cases h;decide
   ·cases h
theorem withPrev_len:∀(hs:List (List Held)) (p:List Held),(withPrev p hs).length=hs.length
 | [],_=>rfl
 | a::hs,p=>by simp[withPrev,withPrev_len hs a]
theorem withPrev_at:∀{hs:List (List Held)}{p:List Held}{i:Nat}{h:List Held},hs[i]?=some h->(withPrev p hs)[i]?=some (if i=0 then p else (hs[i-1]?).getD [],h)
 | [],p,i,h,e=>by simp at e
 | a::hs,p,0,h,e=>by
  simp at e
  subst e
  rfl
 | a::hs,p,i+1,h,e=>by
  have e':hs[i]?=some h:=by simpa using e
  have ih:=withPrev_at (p:=a) e'
  show (withPrev a hs)[i]?=_
  rw[ih]
  congr 2
  cases i with
  | zero=>simp
  | succ i=>simp
theorem iD {ring:Nat}:∀{ls:List Ln}{s:List St},(heldS ring s ls).length<=ls.length
 | [],s=>by rw[heldS_nil];simp
 | none::r,s=>by
  rw[heldS_bar]
  have:=iD (ring:=ring) (ls:=r) (s:=if ring=2 then [] else s)
  simp
  omega
 | some (n,m)::r,s=>by
  rw[heldS_moment]
  have:=iD (ring:=ring) (ls:=r) (s:=if ring=0 then [] else s.filter (fun y=>!hit m y.1)++m)
  simp
  omega
theorem kh {ring:Nat}:∀{ls:List Ln}{s:List St},(∃m,some m∈ls)->heldS ring s ls≠[]
 | [],s,⟨m,h⟩=>by simp at h
 | none::r,s,⟨m,h⟩=>by
  rw[heldS_bar]
  exact kh ⟨m,by simpa using h⟩
 | some (n,m)::r,s,_=>by
  rw[heldS_moment]
  simp
theorem mLines_some {k:Nat}:∀{rows:List (List Nat)}{last:Nat}{ls:List Ln},mLines k last rows=some ls->last≠0∨∃m,some m∈ls
 | [],last,ls,h=>by
  unfold mLines at h
  by_cases e:last=0
  ·simp[e] at h
  ·exact .inl e
 | row::rows,last,ls,h=>by
  unfold mLines at h
  split at h
  ·cases hm:mLines k last rows with
   | none=>rw[hm] at h;cases h
   | some l =>
    rw[hm] at h
    cases h
    rcases mLines_some hm with q | ⟨m,q⟩
    ·exact .inl q
    ·exact .inr ⟨m,by simp[q]⟩
  ·split at h
   ·cases h
   ·rename_i x hx
    cases hm:mLines k x.1 rows with
    | none=>rw[hm] at h;cases h
    | some l =>
     rw[hm] at h
     cases h
     exact .inr ⟨x,by simp⟩
theorem rdg_ok {ring:Nat}{ns:List Nat}{hs:List (List Held)} (h:rdg ring ns=.ok hs):(∀x∈withPrev [] hs,okMom x)/\hs.length<=512/\hs≠[]:=by
 unfold rdg at h
 split at h
 ·cases h
 ·split at h
  ·cases h
  ·rename_i ls hm
   split at h
   ·cases h
   ·cases h
    obtain⟨h1,h2⟩:=mPiece_ok hm
    refine⟨d9 h1 .nil (by simp) pI (by intro x hx;simp at hx),Nat.le_trans iD h2,kh ?_⟩
    unfold mPiece at hm
    dsimp only at hm
    split at hm
    ·cases hm
    ·split at hm
     ·cases hm
     ·split at hm
      ·cases hm
      ·split at hm
       ·cases hm
       ·rcases mLines_some hm with q | q
        ·exact absurd rfl q
        ·exact q
end LM
end
section
set_option maxRecDepth 100000
set_option maxHeartbeats 2000000
namespace LP
open PySem PySem.Spec PyProof.Rows L2 TL
def top (i:Nat):Stmt:=PySem.Challenge.pw_lutefingers_s05_judge.main.body.getD i (.Pass ⟨0,0,0,0⟩)
def GV (mg:Str->Option Value) (x:Str) (v:V):Prop:=∃u,mg x=some u/\RelV v u
structure Tab (K:W.Frag) (a:Addr) (xs:List V):Prop where
 sq:∀H,SqT K H a xs
 ty:∃o,K.lookup a=some o/\o.cls=.type "tuple"/\o.dict=none
structure GT (K:W.Frag) (mg:Str->Option Value) (x:Str) (xs:List V) (a:Addr):Prop where
 at_:mg x=some (.ref a)
 tab:Tab K a xs
structure Df (K:W.Frag) (mg:Str->Option Value) (x:Str) (st:Stmt) (ps:List Str) (f:Addr) (fd:FuncData):Prop where
 fn:Fun K x x st f fd
 at_:mg x=some (.ref f)
 b:Binds K fd ps []
section
variable {X:Cx}
theorem bc {x:Str}{v:V}{pos:Pos} (h:GV X.mg x v) (hg:Gl X x) (hd:(x==("__debug__":Str))=false:=by decide):PE X (.Name x pos) (tC v):=by
 obtain⟨u,hm,r⟩:=h
 exact gr hg hm r hd
theorem dM {x:Str}{xs:List V}{a:Addr}{pos:Pos} (h:GT X.K X.mg x xs a) (hg:Gl X x) (hd:(x==("__debug__":Str))=false:=by decide):PE X (.Name x pos) (tC (.ref a)):=gr hg h.at_ rfl hd
end
theorem mn {σ:L2.St}{H:Hp}{A B:Hp->Prop} (h:A H):yU σ H (fun b H3=>if b=true then A H3 else B H3):=by
 show (if true=true then A H else B H)
 exact yI h
theorem xr {x:Str}{g:TG}{tb:TS}{D:Ends}{σ:L2.St}{H:Hp} (Pv:Nat->L2.St->Hp->Prop) (h0:Pv 0 σ H)
  (turn:∀i c σ H,x.cps[i]?=some c->Pv i σ H->g (.str ⟨#[c]⟩) σ H fun σ2 H2=>tb {D with nx:=Pv (i+1),ct:=Pv (i+1),bk:=D.nx} σ2 H2)
  (after:∀σ H,Pv x.cps.size σ H->D.nx σ H) :
  ∃W:Nat->Nat->L2.St->Hp->Prop,(∃m,W 0 m σ H)/\∀i m σ H,W i m σ H->((Its x).stop i H/\D.nx σ H)∨((Its x).go i H/\∃N:L2.St->Hp->Prop,(∀σ' H',N σ' H'->∃m',m'<m/\W (i+1) m' σ' H')/\∀v H',(Its x).yld i H v H'->g v σ H' fun σ2 H2=>tb {D with nx:=N,ct:=N,bk:=D.nx} σ2 H2):=by
 refine⟨fun i m σ H=>m+i=x.cps.size/\Pv i σ H,⟨x.cps.size,rfl,h0⟩,fun i m σ H ⟨hm,hp⟩=>?_⟩
 by_cases hi:i<x.cps.size
 ·refine .inr ⟨hi,Pv (i+1),fun σ' H' hp'=>⟨m-1,by omega,by omega,hp'⟩,?_⟩
  rintro v H' ⟨rfl,c,hc,rfl⟩
  exact turn i c σ _ hc hp
 ·have e:i=x.cps.size:=by omega
  subst e
  exact .inl ⟨Nat.le_refl _,after σ H hp⟩
def T (l:List Nat):Str:=⟨l.toArray⟩
theorem vY {a b:List Nat} (h:T a=T b):a=b:=by
 have q:tl (T a)=tl (T b):=congrArg tl h
 exact q
theorem bi (l:List Nat):(T l).length=l.length:=by simp[T,Str.length]
theorem _root_.L2.Same.new {H H':Hp}{p:Addr}{o:HO} (s:Same H H') (hp:H' p=none):Same H (upd H' p o):=fun b u e=>by
 rw[ai (af (s b u e) hp)]
 exact s b u e
def But (q:Addr) (H H':Hp):Prop:=∀b o,H b=some o->b≠q->H' b=some o
abbrev cq:Stmt:=top 33
def jB (K:W.Frag):Sp:=fun vs H Q _=>∃(a:Addr) (ns S:List Nat),vs=[.ref a,.str (T S)]/\SqL K H a (ns.map fun (n:Nat)=>V.int (n:Int))/\ns.length<=100000/\S.length<=100/\∀H',Same H H'->Q (.str (T (ns.map (LM.cleanIn S)))) H'
def ur:Str:=T LM.SIGNS
def mM:Str:=T [63]
section
variable {P:Program}{w:World}{K:W.Frag}{mg:Str->Option Value}{base:Heap}
abbrev qV:List Str:=["codes","signs","known","sign","code"]
theorem scAsText:FnScope qV ["codes","signs"] (ad cq):=⟨rfl,rfl,rfl,by decide +kernel,rfl,by decide +kernel,by decide +kernel⟩
structure Known (S:List Nat) (n:Nat) (kvs:List (Key×V)):Prop where
 len:kvs.length<=n
 val:∀c:Nat,bN kvs (Sum.inl (c:Int))=if c∈S.take n then some (.str (T [c])) else none
theorem aT {α:Type}:∀{l:List α}{i:Nat}{x:α},l[i]?=some x->l.take (i+1)=l.take i++[x]
 | [],i,x,h=>by simp at h
 | a::l,0,x,h=>by
  have e:a=x:=Option.some.inj h
  subst e
  rfl
 | a::l,i+1,x,h=>by
  have ih:=aT (l:=l) (i:=i) (x:=x) h
  show a::l.take (i+1)=a::l.take i++[x]
  rw[ih]
  rfl
theorem Known.step {S:List Nat}{n c:Nat}{kvs:List (Key×V)} (k:Known S n kvs) (h:S[n]?=some c):Known S (n+1) (dA kvs (Sum.inl (c:Int)) (.str (T [c]))):=by
 refine⟨Nat.le_trans (d7 _ _ _) (Nat.succ_le_succ k.len),fun d=>?_⟩
 rw[m9,k.val,aT h]
 by_cases e:d=c
 ·subst e
  rw[if_pos rfl,if_pos (by simp)]
 ·rw[if_neg (fun q=>e (by injection q with q;omega))]
  by_cases hm:d∈S.take n
  ·rw[if_pos hm,if_pos (by simp[hm])]
  ·rw[if_neg hm,if_neg (by simp[hm,e])]
theorem Known.get {S:List Nat}{kvs:List (Key×V)} (k:Known S S.length kvs) (n:Nat):(bN kvs (Sum.inl (n:Int))).getD (.str mM)=.str (T [LM.cleanIn S n]):=by
 rw[k.val,List.take_length]
 unfold LM.cleanIn
 split <;> rfl
theorem lM:∀l:List (List Nat),kc [] l=l.flatten
 | []=>rfl
 | [a]=>by simp[kc]
 | a::b::r=>by
  have ih:=lM (b::r)
  simp only[kc,ih,List.nil_append,List.append_nil,List.flatten_cons]
theorem ka (l:List Nat):Txt.join (T []) (l.map fun n=>T [n])=T l:=by
 rw[xg]
 refine p0 ?_
 rw[qo]
 show kc [] _=l
 rw[lM,List.map_map]
 induction l with
 | nil=>rfl
 | cons a l ih =>
  show a::(List.map (tl ∘ fun n=>T [n]) l).flatten=a::l
  rw[ih]
theorem lL (l:List Nat):((l.map fun n=>T [n]).map (·.length)).sum=l.length:=by
 induction l with
 | nil=>rfl
 | cons a l ih =>
  show 1+_=l.length+1
  rw[← ih]
  exact Nat.add_comm _ _
theorem sM {f:Addr}{fd:FuncData} (D:Df K mg "as_text" cq ["codes","signs"] f fd) (gN:GV mg "NO_SIGN" (.str mM)) (gO:mg "ord" = none):FnOk P w K mg base CX0 2 f fd ["codes","signs"] (jB K):=by
 refine D.fn.ok scAsText (fun vs H Q E h=>?_) (fun cdv A outer s H vs Q E hr h=>?_)
 ·obtain⟨a,ns,S,rfl,_⟩:=h
  rfl
 ·obtain⟨a,ns,S,rfl,hS,hlen,hSl,k⟩:=h
  have hu:=vB hr
  refine⟨_,ae (aG (i:=2) scAsText.nd rfl (Or.inr rfl) gu)
   (ae (br PassesOwn.never rfl (yh (pv 1)) (aD (i:=3) scAsText.nd rfl (Or.inl rfl))
    (ah (qK hu (pv 2) (aR vT (by rfl) gO boot_ord (aa (pv 3) ag)) (pv 3) rfl)))
   (ah (aA (qN aQ (jJ (own:=[("code",4)]) rfl scAsText.nd (bo (pv 0)) (BlkOk.mk (N:=qV) (sc:=ad cq) rfl (by decide +kernel) (by decide +kernel) (by decide +kernel) (by decide +kernel)) (fun _ _ _ _ _=>aD (i:=4) scAsText.nd rfl (Or.inl rfl)) (fun _ _ _ _ _=>cr)
    (fun _ _ _ _ _=>uR hu (pv 2) (pv 4) (bc gN rfl) ⟨rfl,rfl,rfl,rfl⟩)))))),?_⟩
  intro d hd
  refine⟨_,rfl,T S,rfl,xr (x:=T S) (fun i σ H'=>∃v kvs,σ=[some (.ref a),some (.str (T S)),some (.ref d),v,none]/\H' d=some (.dK kvs)/\Known S i kvs/\Same H H')
   ⟨none,[],rfl,ac,⟨Nat.le_refl _,fun c=>by rw[t7,List.take_zero,if_neg (by simp)]⟩,Same.new (fun _ _ e=>e) hd⟩ ?_ ?_⟩
  ·rintro i c σ H' hc ⟨v,kvs,rfl,hk,kn,sm⟩
   have hc':S[i]?=some c:=by
    have:(S.toArray)[i]?=some c:=hc
    simpa using this
   have hi:i<100:=Nat.lt_of_lt_of_le (List.getElem?_eq_some_iff.mp hc').1 hSl
   refine⟨_,rfl,_,rfl,_,rfl,⟨#[c]⟩,rfl,rfl,d,_,rfl,DPut.k (k:=Sum.inl (c:Int)) hk (Nat.lt_of_le_of_lt kn.len (Nat.lt_trans hi (by decide))),?_⟩
   exact⟨_,_,rfl,ac,kn.step hc',fun b o e=>by
    rw[ai (af e hd)]
    exact sm b o e⟩
  ·rintro σ H' ⟨v,kvs,rfl,hk,kn,sm⟩
   have kn:Known S S.length kvs:=by
    have e:(T S).cps.size=S.length:=by simp[T]
    rw[← e]
    exact kn
   refine⟨⟨_,rfl⟩,?_⟩
   refine⟨_,rfl,a,rfl,⟨_,sm.seq hS⟩,fun D hD=>?_⟩
   refine dE (K:=K) (a:=a) (xs:=ns.map fun (n:Nat)=>V.int (n:Int)) (fun i H2=>H2 D=some (.lst ((ns.take i).map fun n=>V.str (T [LM.cleanIn S n])))/\H2 d=some (.dK kvs)/\Same H H2)
    ⟨ac,by rw[ai (af hk hD)];exact hk,sm.new hD⟩ (fun i H2 _ h2=>h2.2.2.seq hS) ?_ ?_
   ·rintro i x H2 hx ⟨h1,h2,h3⟩
    rw[List.getElem?_map] at hx
    cases hn:ns[i]? with
    | none=>rw[hn] at hx;cases hx
    | some n =>
     rw[hn] at hx
     cases hx
     refine⟨rfl,mn ?_⟩
     refine⟨_,rfl,d,rfl,.inl ⟨kvs,.inl h2⟩,_,rfl,_,DGet.k (k:=Sum.inl (n:Int)) h2,?_⟩
     rw[kn.get]
     have hi:i<ns.length:=(List.getElem?_eq_some_iff.mp hn).1
     refine⟨_,h1,?_,?_,?_,?_⟩
     ·rw[List.length_map,List.length_take]
      exact Nat.lt_of_le_of_lt (Nat.min_le_left _ _) (Nat.lt_of_lt_of_le hi (Nat.le_trans hlen (by decide)))
     ·rw[ac,aT hn,List.map_append]
      rfl
     ·rw[ai (cT h2 h1 (by intro z;cases z))]
      exact h2
     ·exact fun b o e=>by
       rw[ai (af (sm b o e) hD)]
       exact h3 b o e
   ·rintro H2 ⟨h1,h2,h3⟩
    rw[List.length_map,List.take_length] at h1
    have e1:(ns.map fun n=>V.str (T [LM.cleanIn S n]))=((ns.map (LM.cleanIn S)).map fun n=>T [n]).map V.str:=by
     rw[List.map_map,List.map_map]
     rfl
    rw[e1] at h1
    refine⟨T [],D,_,rfl,rfl,.inl (SqL.of h1),?_,?_⟩
    ·rw[lL,List.length_map]
     show ns.length+_ * 0<=_
     rw[Nat.mul_zero]
     exact Nat.le_trans hlen (by decide)
    ·rw[ka]
     exact k _ h3
end
def StopAt (H:Hp) (v:V) (x:LM.St):Prop:=∃a,v=.ref a/\H a=some (.tup [.int (x.1:Nat),.int (x.2:Nat)])
def StopsAt (H:Hp) (p:Addr) (l:List LM.St):Prop:=∃vs,H p=some (.lst vs)/\Paired (StopAt H) vs l
theorem StopAt.mono {H H':Hp}{v:V}{x:LM.St} (k:∀a xs,H a=some (.tup xs)->H' a=some (.tup xs)) (h:StopAt H v x):StopAt H' v x:=by
 obtain⟨a,e,ha⟩:=h
 exact⟨a,e,k _ _ ha⟩
theorem aH {H H':Hp}{vs:List V}{l:List LM.St} (k:∀a xs,H a=some (.tup xs)->H' a=some (.tup xs)) (h:Paired (StopAt H) vs l):Paired (StopAt H') vs l:=Paired.mapP h fun _ _ q=>q.mono k
theorem StopsAt.same {H H':Hp}{p:Addr}{l:List LM.St} (k:Same H H') (h:StopsAt H p l):StopsAt H' p l:=by
 obtain⟨vs,h1,h2⟩:=h
 exact⟨vs,k _ _ h1,aH (fun a xs e=>k _ _ e) h2⟩
theorem aV {α β:Type}{F:α->β->Prop}:∀{l:List α}{m:List β}{a:α}{b:β},Paired F l m->F a b->Paired F (l++[a]) (m++[b])
 | _,_,_,_,.nil,h=>.cons h .nil
 | _,_,_,_,.cons r t,h=>.cons r (aV t h)
theorem jL {α β:Type}{F:α->β->Prop}:∀{l l2:List α}{m m2:List β},Paired F l m->Paired F l2 m2->Paired F (l++l2) (m++m2)
 | _,_,_,_,.nil,h=>h
 | _,_,_,_,.cons r t,h=>.cons r (jL t h)
theorem bx {H:Hp}{p:Addr}{ys zs:List V} (hp:H p=some (.lst ys)):∀a xs,H a=some (.tup xs)->upd H p (.lst zs) a=some (.tup xs):=fun a xs e=>by
 rw[ai (cT e hp (by intro z;cases z))]
 exact e
theorem bA {H:Hp}{p:Addr}{o:HO} (hp:H p=none):∀a xs,H a=some (.tup xs)->upd H p o a=some (.tup xs):=fun a xs e=>by
 rw[ai (af e hp)]
 exact e
def Out (C:Addr) (H:Hp) (Q:VK) (E:XK) (o:Option (List LM.St)):Prop:=match o with
 | some l=>∀H' p,Same H H'->H p=none->StopsAt H' p l->Q (.ref p) H'
 | none=>∀H',Same H H'->E (.ref C) none H'
theorem cx {α:Type} [BEq α] [LawfulBEq α]:∀{l:List α}{a:α}{i:Nat},l.idxOf? a=some i->l[i]?=some a/\∀m,m<i->l[m]?≠some a
 | [],a,i,h=>by cases h
 | b::l,a,i,h=>by
  rw[List.idxOf?_cons] at h
  by_cases e:b=a
  ·subst e
   simp at h
   subst h
   exact⟨rfl,fun m hm=>absurd hm (Nat.not_lt_zero _)⟩
  ·have hb:(b==a)=false:=by simp[e]
   rw[hb] at h
   simp only[Bool.false_eq_true,if_false,Option.map_eq_some_iff] at h
   obtain⟨j,hj,rfl⟩:=h
   obtain⟨h1,h2⟩:=cx hj
   refine⟨h1,fun m hm=>?_⟩
   cases m with
   | zero=>simpa using e
   | succ m=>exact h2 m (by omega)
theorem bh {α:Type} [BEq α] [LawfulBEq α] {l:List α}{a:α} (h:l.idxOf? a=none):a∉l:=by
 rw[List.idxOf?_eq_none_iff] at h
 exact h
theorem qp {c d:Nat}:(V.str ⟨#[c]⟩=V.str (T [d]))↔c=d:=by
 constructor
 ·intro h
  injection h with h
  have:=congrArg tl h
  simpa[T] using this
 ·rintro rfl;rfl
theorem strT_eq {a b:List Nat}:(V.str (T a)=V.str (T b))↔a=b:=by
 constructor
 ·intro h
  injection h with h
  exact vY h
 ·rintro rfl;rfl
theorem iW {p:Prop} [Decidable p] (h:(!decide p)=true):¬p:=by simpa using h
theorem nnd_of {p:Prop} [Decidable p] (h:¬(!decide p)=true):p:=by simpa using h
abbrev iR:Stmt:=top 52
abbrev zn:List Str:=["signs","frets","stops","course","sign"]
def pj (C:Addr):Sp:=fun vs H Q E=>∃(s f:List Nat),vs=[.str (T s),.str (T f)]/\s.length<=70000/\Out C H Q E (LM.mGrid6 f s)
section
variable {P:Program}{w:World}{K:W.Frag}{mg:Str->Option Value}{base:Heap}{C:Addr}
theorem scGrid:FnScope zn ["signs","frets"] (ad iR):=⟨rfl,rfl,rfl,by decide +kernel,rfl,by decide +kernel,by decide +kernel⟩
theorem map_app_nil {o:Option (List LM.St)}:o.map ([]++·)=o:=by cases o <;> rfl
theorem wM {f:Addr}{fd:FuncData} (D:Df K mg "read_grid" iR ["signs","frets"] f fd) (hC:ExC K mg "NoPiece" C) (gL:mg "len" = none) (gE:mg "enumerate" = none):FnOk P w K mg base (CXF P w C) 2 f fd ["signs","frets"] (pj C):=by
 refine D.fn.okX scGrid (fun vs H Q E h=>?_) (fun cdv A outer s H vs Q E hr h=>?_)
 ·obtain⟨s,f,rfl,_⟩:=h
  rfl
 ·obtain⟨s,f,rfl,hlen,k⟩:=h
  have hu:=vB hr
  refine⟨_,ae (aM (aq jO (aR cv (by rfl) gL PySem.boot_len (aa (pv 0) ag)) ao (nomark _)) (ah (bd rfl (bK aP) rfl hC (aa aQ ag))) aw)
   (ae (aG (i:=2) scGrid.nd rfl (Or.inl rfl) (bn ag))
   (ae (br bR rfl (so rfl gE (pv 0)) (bV (n:=2) rfl (aO (aD (i:=3) scGrid.nd rfl (Or.inl rfl)) (aO (aD (i:=4) scGrid.nd rfl (Or.inl rfl)) bD)))
    (ae (aM (aq bz (pv 4) aQ (nomark _)) (ah iU) aw)
    (ae (aM (aq fg (pv 4) (pv 1) rfl) (ah (bd rfl (bK aP) rfl hC (aa aQ ag))) aw)
    (ah (cu (cS F.plainAttrs_list F.slot_list_append F.type_list_append bE (pv 2) (aa (bW (aa (pv 3) (aa (lC F.slot_str_index F.type_str_index lG (pv 1) (pv 4)) ag))) ag)))))))
   (ah (aA (pv 2))))),?_⟩
  refine⟨_,rfl,T s,rfl,?_,rfl,_,rfl,?_⟩
  ·rw[bi];exact Nat.le_trans hlen (by decide)
  refine ite2 (fun h6=>?_) fun h6=>?_
  ·refine⟨(by show 1<=sizeLine;decide),?_⟩
   have:¬s.length=6:=by
    intro q
    simp[bi,q] at h6
   have e:LM.mGrid6 f s=none:=by unfold LM.mGrid6;rw[if_neg this]
   rw[e] at k
   exact k H (Same.refl H)
  ·have h6':s.length=6:=by
    simp[bi] at h6
    omega
   have e:LM.mGrid6 f s=LM.mGrid f 1 s:=by unfold LM.mGrid6;rw[if_pos h6']
   rw[e] at k
   refine⟨Nat.zero_le _,fun p hp=>?_⟩
   refine⟨_,rfl,T s,rfl,pX (x:=T s) (fun i σ H'=>∃v3 v4 vs l,σ=[some (.str (T s)),some (.str (T f)),some (.ref p),v3,v4]/\H' p=some (.lst vs)/\Paired (StopAt H') vs l/\Same H H'/\l.length<=i/\LM.mGrid f 1 s=(LM.mGrid f (i+1) (s.drop i)).map (l++·))
    ⟨none,none,[],[],rfl,ac,.nil,Same.new (Same.refl H) hp,Nat.le_refl _,map_app_nil.symm⟩ ?_ ?_⟩
   ·rintro i c σ H' t hc ⟨v3,v4,vs,l,rfl,h1,h2,h3,h4,h5⟩ ht
    have hc':s[i]?=some c:=by simpa[T] using hc
    have hi:=(List.getElem?_eq_some_iff.mp hc').1
    have hdrop:s.drop i=c::s.drop (i+1):=by
     rw[List.drop_eq_getElem_cons hi]
     congr 1
     exact (List.getElem?_eq_some_iff.mp hc').2
    rw[hdrop] at h5
    have s1:Same H (upd H' t (.tup [.int ((i+1:Nat):Int),.str ⟨#[c]⟩])):=h3.new ht
    have p1:upd H' t (.tup [.int ((i+1:Nat):Int),.str ⟨#[c]⟩]) p=some (.lst vs):=by rw[ai (af h1 ht)];exact h1
    have q1:=aH (bA (o:=.tup [.int ((i+1:Nat):Int),.str ⟨#[c]⟩]) ht) h2
    refine⟨t,_,rfl,SqT.of ac,rfl,_,_,rfl,_,_,rfl,rfl,?_⟩
    refine⟨_,rfl,rfl,_,rfl,ite2 (fun hp46=>?_) fun hp46=>?_⟩
    ·have e46:c=46:=(qp (d:=46)).mp (of_decide_eq_true hp46)
     refine⟨_,_,vs,l,rfl,p1,q1,s1,by omega,?_⟩
     rw[h5]
     conv=>lhs;unfold LM.mGrid
     rw[if_pos e46]
    ·have e46:¬c=46:=fun q=>hp46 (decide_eq_true ((qp (d:=46)).mpr q))
     have eg:LM.mGrid f (i+1) (c::s.drop (i+1))=match f.idxOf? c with
       | none=>none
       | some x=>(LM.mGrid f (i+1+1) (s.drop (i+1))).map ((i+1,x)::·):=by
      conv=>lhs;unfold LM.mGrid
      rw[if_neg e46]
      all_goals rfl
     refine⟨_,rfl,_,rfl,c,T f,rfl,rfl,_,rfl,ite2 (fun hin=>?_) fun hin=>?_⟩
     ·refine⟨(by show 1<=sizeLine;decide),?_⟩
      have hn:f.idxOf? c=none:=LM.idx_none (iW hin)
      rw[h5,eg,hn] at k
      exact k _ s1
     ·have hm:c∈f:=nnd_of hin
      cases hx:f.idxOf? c with
      | none=>exact absurd hm (bh hx)
      | some x =>
       obtain⟨g1,g2⟩:=cx hx
       rw[hx] at eg
       refine⟨_,rfl,.inl ⟨rfl,_,SqL.of p1⟩,_,rfl,_,rfl,⟨_,rfl⟩,_,rfl,T f,c,x,rfl,rfl,g1,g2,(by show 2<=sizeLine;decide),fun t2 ht2=>?_⟩
       have p2:=(af p1 ht2)
       refine⟨p,_,_,rfl,rfl,by rw[ai p2];exact p1,?_,?_⟩
       ·rw[q1.length]
        exact Nat.lt_of_le_of_lt h4 (Nat.lt_trans hi (by rw[h6'];decide))
       ·have q2:=aH (bA (o:=.tup [.int ((i+1:Nat):Int),.int (x:Nat)]) ht2) q1
        have p3:upd (upd H' t (.tup [.int ((i+1:Nat):Int),.str ⟨#[c]⟩])) t2 (.tup [.int ((i+1:Nat):Int),.int (x:Nat)]) p=some (.lst vs):=by rw[ai p2];exact p1
        have q3:=aH (bx (zs:=vs++[.ref t2]) p3) q2
        refine⟨_,_,vs++[.ref t2],l++[(i+1,x)],rfl,ac,?_,?_,?_,?_⟩
        ·refine aV q3 ⟨t2,rfl,?_⟩
         rw[ai (Ne.symm p2),ac]
        ·intro b o e
         rw[ai (af e hp)]
         exact (s1.new ht2) b o e
        ·simp;omega
        ·rw[h5,eg]
         cases LM.mGrid f (i+1+1) (s.drop (i+1)) <;> simp
   ·rintro σ H' ⟨v3,v4,vs,l,rfl,h1,h2,h3,h4,h5⟩
    refine⟨_,rfl,?_⟩
    have e0:s.drop (T s).cps.size=[]:=by
     rw[List.drop_eq_nil_iff]
     simp[T]
    rw[e0] at h5
    have e1:LM.mGrid f 1 s=some l:=by rw[h5];simp[LM.mGrid]
    rw[e1] at k
    exact k H' p h3 hp ⟨vs,h1,h2⟩
end
theorem mx (d:Nat):∀(l acc:List Nat),TL.spl [d] 0 acc l=match LM.spl d l with
  | []=>[]
  | a::r=>(acc++a)::r
 | [],acc=>by simp[TL.spl_nil,LM.spl]
 | c::l,acc=>by
  by_cases e:c=d
  ·subst e
   have h:pre [c] (c::l)=true:=uL [c] l
   rw[TL.spl_hit h]
   have ih:=mx c l []
   show acc::TL.spl [c] 0 [] l=_
   rw[ih,LM.spl_hit]
   cases h2:LM.spl c l with
   | nil=>exact absurd h2 (LM.spl_ne _ _)
   | cons a r=>simp
  ·have h:pre [d] (c::l)=false:=nJ [] l e
   rw[TL.spl_miss h,mx d l (acc++[c])]
   have e2:LM.spl d (c::l)=match LM.spl d l with
     | []=>[[c]]
     | a::r=>(c::a)::r:=by
    conv=>lhs;unfold LM.spl
    rw[if_neg e]
    cases LM.spl d l <;> rfl
   rw[e2]
   cases h2:LM.spl d l with
   | nil=>exact absurd h2 (LM.spl_ne _ _)
   | cons a r=>simp
theorem gm (d:Nat) (hd:d<256) (l:List Nat):Txt.split (T l) (T [d])=(LM.spl d l).map T:=by
 refine jS ?_
 have hk:¬Builtin.Str.strKind (T l)<Builtin.Str.strKind (T [d]):=xf (by simp[T,hd])
 rw[rR (T l) (T [d]) (by simp[T]) hk]
 show TL.spl [d] 0 [] l=_
 rw[mx,List.map_map]
 have e:(tl ∘ T)=id:=by funext x;rfl
 rw[e,List.map_id]
 cases h2:LM.spl d l with
 | nil=>exact absurd h2 (LM.spl_ne _ _)
 | cons a r=>simp
theorem dq (d:Nat):∀l:List Nat,(LM.spl d l).length<=l.length+1
 | []=>by simp[LM.spl]
 | c::l=>by
  have ih:=dq d l
  unfold LM.spl
  split
  ·simp;omega
  ·cases h2:LM.spl d l with
   | nil=>simp
   | cons a r =>
    rw[h2] at ih
    simp at ih ⊢
    omega
abbrev tv (tab:List (List Nat)):List V:=tab.map fun x=>V.str (T x)
theorem cp (tab:List (List Nat)):(tv tab).all flatV=true:=by
 rw[List.all_eq_true]
 intro x hx
 obtain⟨y,_,rfl⟩:=List.mem_map.mp hx
 rfl
theorem ro (a b:List Nat):eqV (.str (T a)) (.str (T b))=decide (a=b):=by
 show (T a==T b)=_
 by_cases e:a=b
 ·subst e;simp
 ·rw[decide_eq_false e]
  exact beq_eq_false_iff_ne.mpr fun q=>e (vY q)
theorem iC (s:List Nat):∀tab:List (List Nat),inV (.str (T s)) (tv tab)=decide (s∈tab)
 | []=>rfl
 | a::tab=>by
  have ih:=iC s tab
  show (eqV (.str (T a)) (.str (T s)) || inV (.str (T s)) (tv tab))=_
  rw[ih,ro]
  by_cases e:a=s
  ·subst e;simp
  ·have:¬s=a:=fun q=>e q.symm
   simp[e,this]
theorem qm {tab:List (List Nat)}{s:List Nat}{i:Nat} (h:tab.idxOf? s=some i):(tv tab)[i]?=some (.str (T s))/\∀(m:Nat) (z:V),m<i->(tv tab)[m]?=some z->eqV z (.str (T s))=false:=by
 obtain⟨h1,h2⟩:=cx h
 refine⟨by rw[List.getElem?_map,h1];rfl,fun m z hm hz=>?_⟩
 rw[List.getElem?_map] at hz
 cases e:tab[m]? with
 | none=>rw[e] at hz;cases hz
 | some y =>
  rw[e] at hz
  cases hz
  rw[ro]
  exact decide_eq_false fun q=>h2 m hm (by rw[e,q])
theorem eO (xs:List V) (x:V):zdl (x::xs) (some 1) none=xs:=by
 unfold zdl
 have e:HT.sIx (x::xs).length 0 (some ((1:Nat):Int))=1:=by
  rw[HT.sIx_nat]
  simp
 have e':HT.sIx (x::xs).length 0 (some 1)=1:=e
 rw[e',HT.sIx_none]
 simp
abbrev cR:Stmt:=top 53
abbrev wY:List Str:=["text","basses","parts","stops","sign"]
def jA (K:W.Frag) (C:Addr):Sp:=fun vs H Q E=>∃(t:List Nat) (b:Addr) (tab:List (List Nat)),vs=[.str (T t),.ref b]/\t.length<=70000/\Tab K b (tv tab)/\Out C H Q E (LM.mBasses tab t)
section
variable {P:Program}{w:World}{K:W.Frag}{mg:Str->Option Value}{base:Heap}{C:Addr}
theorem scBasses:FnScope wY ["text","basses"] (ad cR):=⟨rfl,rfl,rfl,by decide +kernel,rfl,by decide +kernel,by decide +kernel⟩
theorem sL {f:Addr}{fd:FuncData} (D:Df K mg "read_basses" cR ["text","basses"] f fd) (hC:ExC K mg "NoPiece" C) (gF:GV mg "FIRST_BASS" (.int 7)):FnOk P w K mg base (CXF P w C) 2 f fd ["text","basses"] (jA K C):=by
 refine D.fn.okX scBasses (fun vs H Q E h=>?_) (fun cdv A outer s H vs Q E hr h=>?_)
 ·obtain⟨t,b,tab,rfl,_⟩:=h
  rfl
 ·obtain⟨t,b,tab,rfl,hlen,hT,k⟩:=h
  refine⟨_,ae (aG (i:=2) scBasses.nd rfl (Or.inl rfl) (dX (pv 0) aQ))
   (ae (aM (aq jO (aJ aY (pv 2) ao (fun _ _=>rfl)) aQ (nomark _)) (ah (bd rfl (bK aP) rfl hC (aa aQ ag))) aw)
   (ae (aG (i:=3) scBasses.nd rfl (Or.inl rfl) (bn ag))
   (ae (br bR rfl (bo (bp gn (pv 2) (bC ao) bQ)) (aD (i:=4) scBasses.nd rfl (Or.inl rfl))
    (ae (aM (aq bS (pv 4) (pv 1) rfl) (ah (bd rfl (bK aP) rfl hC (aa aQ ag))) aw)
    (ah (cu (cS F.plainAttrs_list F.slot_list_append F.type_list_append bE (pv 3) (aa (bW (aa (bb cj (bc gF rfl) (cS F.plainAttrs_tuple F.slot_tuple_index F.type_tuple_index di (pv 1) (aa (pv 4) ag))) (aa ao ag))) ag))))))
   (ah (aA (pv 3)))))),?_⟩
  refine⟨_,rfl,⟨_,rfl⟩,T t,T [32],rfl,rfl,rfl,?_,fun pp hpp=>?_⟩
  ·rw[bi];exact Nat.le_trans (Nat.add_le_add_right hlen 2) (by decide)
  rw[gm 32 (by decide)]
  obtain⟨hd,ps,e1⟩:∃a r,LM.spl 32 t=a::r:=by
   cases h:LM.spl 32 t with
   | nil=>exact absurd h (LM.spl_ne _ _)
   | cons a r=>exact⟨a,r,rfl⟩
  have hlps:ps.length<=70000:=by
   have:=dq 32 t
   rw[e1] at this
   simp at this
   omega
  have eM:LM.mBasses tab t=if hd=[] then LM.mBassList tab ps else none:=by
   unfold LM.mBasses
   rw[e1]
   cases hd <;> rfl
  rw[e1]
  rw[eM] at k
  have ev:((hd::ps).map T).map V.str=.str (T hd)::tv ps:=by
   rw[List.map_cons,List.map_cons,List.map_map]
   rfl
  rw[ev]
  have s1:Same H (upd H pp (.lst (.str (T hd)::tv ps))):=Same.new (Same.refl H) hpp
  refine⟨_,rfl,pp,_,_,_,rfl,rfl,SqL.of ac,az (j:=0) rfl,rfl,_,rfl,ite2 (fun h0=>?_) fun h0=>?_⟩
  ·refine⟨(by show 1<=sizeLine;decide),?_⟩
   have:¬hd=[]:=fun q=>iW h0 (by rw[q];rfl)
   rw[if_neg this] at k
   exact k _ s1
  ·have h0':hd=[]:=strT_eq.mp (nnd_of h0:V.str (T hd)=V.str (T []))
   rw[if_pos h0'] at k
   refine⟨Nat.zero_le _,fun p hp=>?_⟩
   have s2:=s1.new (o:=.lst []) hp
   have pp2:upd (upd H pp (.lst (.str (T hd)::tv ps))) p (.lst []) pp=some (.lst (.str (T hd)::tv ps)):=by rw[ai (af ac hp)];exact ac
   refine⟨_,rfl,_,rfl,pp,_,rfl,SqL.of pp2,fun q hq=>?_⟩
   have e2:zdl (.str (T hd)::tv ps) (some 1) none=tv ps:=eO _ _
   rw[e2]
   generalize hH2:upd (upd H pp (.lst (.str (T hd)::tv ps))) p (.lst [])=H2 at s2 hq
   have hp2:H2 p=some (.lst []):=by rw[← hH2];exact ac
   have hpn:H p=none:=s1.free hp
   refine⟨q,rfl,⟨_,SqL.of ac⟩,cg (K:=K) (a:=q) (xs:=tv ps) (fun i σ H'=>∃v4 vs l,σ=[some (.str (T t)),some (.ref b),some (.ref pp),some (.ref p),v4]/\H' q=some (.lst (tv ps))/\H' p=some (.lst vs)/\Paired (StopAt H') vs l/\Same H H'/\l.length<=i/\LM.mBassList tab ps=(LM.mBassList tab (ps.drop i)).map (l++·))
    ⟨none,[],[],rfl,ac,by rw[ai (af hp2 hq)];exact hp2,.nil,s2.new hq,Nat.le_refl _,map_app_nil.symm⟩ (fun i σ H' _ ⟨_,_,_,_,h1,_⟩=>SqL.of h1) ?_ ?_⟩
   ·rintro i x σ H' hx ⟨v4,vs,l,rfl,hq',h1,h2,h3,h4,h5⟩
    rw[List.getElem?_map] at hx
    cases hn:ps[i]? with
    | none=>rw[hn] at hx;cases hx
    | some sg =>
     rw[hn] at hx
     cases hx
     have hi:=(List.getElem?_eq_some_iff.mp hn).1
     have hdrop:ps.drop i=sg::ps.drop (i+1):=by
      rw[List.drop_eq_getElem_cons hi]
      congr 1
      exact (List.getElem?_eq_some_iff.mp hn).2
     rw[hdrop] at h5
     have eg:LM.mBassList tab (sg::ps.drop (i+1))=match tab.idxOf? sg with
       | none=>none
       | some x=>(LM.mBassList tab (ps.drop (i+1))).map ((7+x,0)::·):=by
      conv=>lhs;unfold LM.mBassList
      all_goals rfl
     refine⟨_,rfl,_,rfl,b,tv tab,rfl,.inr (hT.sq _),rfl,cp _,_,rfl,?_⟩
     rw[if_pos rfl,iC]
     refine ite2 (fun hin=>?_) fun hin=>?_
     ·refine⟨(by show 1<=sizeLine;decide),?_⟩
      have hn2:tab.idxOf? sg=none:=LM.idx_none (iW hin)
      rw[h5,eg,hn2] at k
      exact k _ h3
     ·have hm:sg∈tab:=nnd_of hin
      cases hx:tab.idxOf? sg with
      | none=>exact absurd hm (bh hx)
      | some x =>
       obtain⟨g1,g2⟩:=qm hx
       rw[hx] at eg
       refine⟨_,rfl,.inl ⟨rfl,_,SqL.of h1⟩,_,rfl,.inr (.inl ⟨rfl,hT.ty⟩),_,rfl,b,tv tab,_,x,_,rfl,rfl,hT.sq _,rfl,cp _,g1,?_,g2,_,_,rfl,rfl,(by show 2<=sizeLine;decide),fun t2 ht2=>?_⟩
       ·rw[ro];exact decide_eq_true rfl
       have p2:=af h1 ht2
       have e7:((7+x:Nat):Int)=(7:Int)+(x:Nat):=by omega
       refine⟨p,_,_,rfl,rfl,by rw[ai p2];exact h1,?_,?_⟩
       ·rw[h2.length]
        exact Nat.lt_of_le_of_lt h4 (Nat.lt_of_lt_of_le hi (Nat.le_trans hlps (by decide)))
       ·have q2:=aH (bA (o:=.tup [.int ((7:Int)+(x:Nat)),.int 0]) ht2) h2
        have p3:upd H' t2 (.tup [.int ((7:Int)+(x:Nat)),.int 0]) p=some (.lst vs):=by rw[ai p2];exact h1
        have q3:=aH (bx (zs:=vs++[.ref t2]) p3) q2
        have hqp:q≠p:=fun z=>by
         rw[z] at hq
         rw[hp2] at hq
         cases hq
        refine⟨_,vs++[.ref t2],l++[(7+x,0)],rfl,?_,ac,?_,?_,?_,?_⟩
        ·rw[ai hqp,ai (af hq' ht2)]
         exact hq'
        ·refine aV q3 ⟨t2,rfl,?_⟩
         rw[ai (Ne.symm p2),ac]
         show _=some (HO.tup [.int ((7+x:Nat):Int),.int 0])
         rw[e7]
        ·intro b o e
         rw[ai (af e hpn)]
         exact (h3.new ht2) b o e
        ·simp;omega
        ·rw[h5,eg]
         cases LM.mBassList tab (ps.drop (i+1)) <;> simp
   ·rintro σ H' ⟨v4,vs,l,rfl,hq',h1,h2,h3,h4,h5⟩
    refine⟨_,rfl,?_⟩
    have e0:ps.drop (tv ps).length=[]:=by
     rw[List.drop_eq_nil_iff]
     simp
    rw[e0] at h5
    have e3:LM.mBassList tab ps=some l:=by rw[h5];simp[LM.mBassList]
    rw[e3] at k
    exact k H' p h3 hpn ⟨vs,h1,h2⟩
end
theorem iG (t:List Nat) (k:Nat):mZ (T t) none (some ((k:Nat):Int))=T (t.take k):=by
 unfold mZ
 rw[HT.sIx_none,HT.sIx_nat,bi]
 show T _=T _
 congr 1
 show (t.drop 0).take (min k t.length-0)=t.take k
 rw[List.drop_zero,Nat.sub_zero]
 by_cases h:k<=t.length
 ·rw[Nat.min_eq_left h]
 ·rw[Nat.min_eq_right (by omega),List.take_length,List.take_of_length_le (by omega)]
theorem eP (t:List Nat) (k:Nat):mZ (T t) (some ((k:Nat):Int)) none=T (t.drop k):=by
 unfold mZ
 rw[HT.sIx_none,HT.sIx_nat,bi]
 show T _=T _
 congr 1
 show (t.drop (min k t.length)).take (t.length-min k t.length)=t.drop k
 by_cases h:k<=t.length
 ·rw[Nat.min_eq_left h,List.take_of_length_le (by simp)]
 ·rw[Nat.min_eq_right (by omega),List.drop_eq_nil_of_le (by omega),List.drop_eq_nil_of_le (by omega)]
  simp
theorem ir {frets:List Nat}:∀{s:List Nat}{k:Nat}{l:List LM.St},LM.mGrid frets k s=some l->l.length<=s.length
 | [],k,l,h=>by
  simp[LM.mGrid] at h
  subst h
  simp
 | c::s,k,l,h=>by
  unfold LM.mGrid at h
  split at h
  ·have:=ir h
   simp;omega
  ·split at h
   ·cases h
   ·simp only[Option.map_eq_some_iff] at h
    obtain⟨l',h',rfl⟩:=h
    have:=ir h'
    simp;omega
theorem jY {frets s:List Nat}{l:List LM.St} (h:LM.mGrid6 frets s=some l):l.length<=6:=by
 unfold LM.mGrid6 at h
 split at h
 ·have:=ir h;omega
 ·cases h
theorem fk {tab:List (List Nat)}:∀{ts:List (List Nat)}{l:List LM.St},LM.mBassList tab ts=some l->l.length=ts.length
 | [],l,h=>by
  simp[LM.mBassList] at h
  subst h
  simp
 | s::ts,l,h=>by
  unfold LM.mBassList at h
  split at h
  ·cases h
  ·simp only[Option.map_eq_some_iff] at h
   obtain⟨l',h',rfl⟩:=h
   have:=fk h'
   simp;omega
theorem iY {tab:List (List Nat)}{t:List Nat}{l:List LM.St} (h:LM.mBasses tab t=some l):l.length<=t.length:=by
 unfold LM.mBasses at h
 split at h
 ·rename_i r e
  have h1:=fk h
  have h2:=dq 32 t
  rw[e] at h2
  simp at h2
  omega
 ·cases h
abbrev dz:Stmt:=top 54
abbrev bZ:Stmt:=top 55
def nB (C:Addr):Sp:=fun vs H Q E=>∃t:List Nat,vs=[.str (T t)]/\t.length<=70000/\Out C H Q E (LM.mFrench t)
def lu (C:Addr):Sp:=fun vs H Q E=>∃t:List Nat,vs=[.str (T t)]/\t.length<=70000/\Out C H Q E (LM.mItalian t)
section
variable {P:Program}{w:World}{K:W.Frag}{mg:Str->Option Value}{base:Heap}{C:Addr}
theorem uz:FnScope ["text"] ["text"] (ad dz):=⟨rfl,rfl,rfl,by decide +kernel,rfl,by decide +kernel,by decide +kernel⟩
theorem nR {H:Hp}{Q:VK}{E:XK}{a b:Option (List LM.St)} (k:Out C H Q E (LM.both a b)) (ha:∀l,a=some l->l.length<=6) (hb:∀l,b=some l->l.length<=70000) :
  Out C H (fun x H1=>Out C H1 (fun y H2=>zi x y H2 Q) E b) E a:=by
 cases a with
 | none =>
  cases b with
  | none=>exact k
  | some y=>exact k
 | some x =>
  intro H1 p s1 hp hx
  cases b with
  | none=>exact fun H2 s2=>k H2 (s1.trans s2)
  | some y =>
   intro H2 q s2 hq hy
   obtain⟨xs,e1,r1⟩:=hx.same s2
   obtain⟨ys,e2,r2⟩:=hy
   refine⟨p,q,xs,ys,rfl,rfl,e1,e2,?_,fun z hz=>?_⟩
   ·rw[r1.length,r2.length]
    exact Nat.le_trans (Nat.add_le_add (ha x rfl) (hb y rfl)) (by decide)
   ·refine k _ z ((s1.trans s2).new hz) ((s1.trans s2).free hz) ⟨xs++ys,ac,?_⟩
    exact jL (aH (bA hz) r1) (aH (bA hz) r2)
theorem sK {f fG fB:Addr}{fd fdG fdB:FuncData}{aB:Addr} (D:Df K mg "read_french_stops" dz ["text"] f fd) (DG:Df K mg "read_grid" iR ["signs","frets"] fG fdG) (DB:Df K mg "read_basses" cR ["text","basses"] fB fdB)
  (GG:FnOk P w K mg base (CXF P w C) 2 fG fdG ["signs","frets"] (pj C)) (GB:FnOk P w K mg base (CXF P w C) 2 fB fdB ["text","basses"] (jA K C)) (gF:GV mg "FRENCH_FRETS" (.str (T LM.FF))) (gB:GT K mg "FRENCH_BASSES" (tv LM.FB) aB) :
  FnOk P w K mg base (CXF P w C) 3 f fd ["text"] (nB C):=by
 refine D.fn.okX uz (fun vs H Q E h=>?_) (fun cdv A outer s H vs Q E hr h=>?_)
 ·obtain⟨t,rfl,_⟩:=h
  rfl
 ·obtain⟨t,rfl,hlen,k⟩:=h
  have hsz:(T t).length<=sizeLine:=by rw[bi];exact Nat.le_trans hlen (by decide)
  refine⟨_,ah (aA (bb uV (aE GG hr rfl DG.at_ DG.fn.kp DG.b .nil (de aP) (aa (bp fD (pv 0) bQ (bC ao)) (aa (bc gF rfl) ag)))
   (aE GB hr rfl DB.at_ DB.fn.kp DB.b .nil (de aP) (aa (bp fD (pv 0) (bC ao) bQ) (aa (dM gB rfl) ag))))),?_⟩
  refine⟨_,rfl,_,rfl,T t,rfl,hsz,t.take 6,LM.FF,?_,?_,?_⟩
  ·exact congrArg (fun z=>[V.str z,V.str (T LM.FF)]) (iG t 6)
  ·exact Nat.le_trans (by rw[List.length_take];exact Nat.min_le_right _ _) hlen
  have k':=nR (C:=C) (a:=LM.mGrid6 LM.FF (t.take 6)) (b:=LM.mBasses LM.FB (t.drop 6)) k (fun l h=>jY h) (fun l h=>by
   have:=iY h
   rw[List.length_drop] at this
   omega)
  cases hg:LM.mGrid6 LM.FF (t.take 6) with
  | none =>
   rw[hg] at k'
   exact k'
  | some l =>
   rw[hg] at k'
   intro H1 p s1 hp hl
   exact⟨_,rfl,_,rfl,T t,rfl,hsz,t.drop 6,aB,LM.FB,congrArg (fun z=>[V.str z,V.ref aB]) (eP t 6),Nat.le_trans (by rw[List.length_drop];exact Nat.sub_le _ _) hlen,gB.tab,k' H1 p s1 hp hl⟩
abbrev n9:List Str:=["text","signs","sign"]
theorem scItalian:FnScope n9 ["text"] (ad bZ):=⟨rfl,rfl,rfl,by decide +kernel,rfl,by decide +kernel,by decide +kernel⟩
theorem pG {f fG fB:Addr}{fd fdG fdB:FuncData}{aB:Addr} (D:Df K mg "read_italian_stops" bZ ["text"] f fd) (DG:Df K mg "read_grid" iR ["signs","frets"] fG fdG) (DB:Df K mg "read_basses" cR ["text","basses"] fB fdB)
  (GG:FnOk P w K mg base (CXF P w C) 2 fG fdG ["signs","frets"] (pj C)) (GB:FnOk P w K mg base (CXF P w C) 2 fB fdB ["text","basses"] (jA K C)) (gF:GV mg "ITALIAN_FRETS" (.str (T LM.IF))) (gB:GT K mg "ITALIAN_BASSES" (tv LM.IB) aB)
  (gR:mg "reversed" = none):FnOk P w K mg base (CXF P w C) 3 f fd ["text"] (lu C):=by
 refine D.fn.okX scItalian (fun vs H Q E h=>?_) (fun cdv A outer s H vs Q E hr h=>?_)
 ·obtain⟨t,rfl,_⟩:=h
  rfl
 ·obtain⟨t,rfl,hlen,k⟩:=h
  have hsz:(T t).length<=sizeLine:=by rw[bi];exact Nat.le_trans hlen (by decide)
  have h6:(t.take 6).length<=6:=by rw[List.length_take];exact Nat.min_le_left _ _
  refine⟨_,ae (aG (i:=1) scItalian.nd rfl (Or.inl rfl) (qN aQ (jJ (own:=[("sign",2)]) rfl scItalian.nd (wz rfl gR (aa (bp fD (pv 0) bQ (bC ao)) ag))
    (BlkOk.mk (N:=n9) (sc:=ad bZ) rfl (by decide +kernel) (by decide +kernel) (by decide +kernel) (by decide +kernel)) (fun _ _ _ _ _=>aD (i:=2) scItalian.nd rfl (Or.inl rfl)) (fun _ _ _ _ _=>cr) (fun _ _ _ _ _=>pv 2))))
   (ah (aA (bb uV (aE GG hr rfl DG.at_ DG.fn.kp DG.b .nil (de aP) (aa (pv 1) (aa (bc gF rfl) ag)))
   (aE GB hr rfl DB.at_ DB.fn.kp DB.b .nil (de aP) (aa (bp fD (pv 0) (bC ao) bQ) (aa (dM gB rfl) ag)))))),?_⟩
  have e6:mZ (T t) none (some 6)=T (t.take 6):=iG t 6
  refine⟨⟨_,rfl⟩,_,rfl,_,rfl,T t,rfl,hsz,T (t.take 6),congrArg (fun z=>[V.str z]) e6,?_,fun L hL=>?_⟩
  ·rw[bi];exact Nat.le_trans h6 (by decide)
  generalize hu:t.take 6=u at h6
  refine xb (x:=T u) (fun i H2=>H2 L=some (.lst ((u.reverse.take i).map fun c=>V.str (T [c])))/\Same H H2) ⟨ac,Same.new (Same.refl H) hL⟩ ?_ ?_
  ·rintro i c H2 hc hi ⟨h1,h2⟩
   have hi':i<u.length:=by simpa[T] using hi
   have hc':u[u.length-1-i]?=some c:=by simpa[T] using hc
   have hr':u.reverse[i]?=some c:=by rw[List.getElem?_reverse hi'];exact hc'
   refine⟨rfl,mn ?_⟩
   refine⟨_,rfl,_,h1,?_,?_,?_⟩
   ·rw[List.length_map,List.length_take]
    exact Nat.lt_of_le_of_lt (Nat.min_le_left _ _) (Nat.lt_of_lt_of_le hi' (Nat.le_trans h6 (by decide)))
   ·rw[ac,aT hr',List.map_append]
    rfl
   ·exact fun b o e=>by
     rw[ai (af e hL)]
     exact h2 b o e
  ·rintro H2 ⟨h1,h2⟩
   have e0:(T u).cps.size=u.reverse.length:=by simp[T]
   rw[e0,List.take_length] at h1
   have e1:(u.reverse.map fun c=>V.str (T [c]))=((u.reverse).map fun n=>T [n]).map V.str:=by
    rw[List.map_map]
    rfl
   rw[e1] at h1
   refine⟨T [],L,_,rfl,rfl,.inl (SqL.of h1),?_,?_⟩
   ·rw[lL,List.length_reverse]
    show u.length+_ * 0<=_
    rw[Nat.mul_zero]
    exact Nat.le_trans h6 (by decide)
   ·rw[ka]
    refine⟨_,rfl,u.reverse,LM.IF,rfl,?_,?_⟩
    ·rw[List.length_reverse];exact Nat.le_trans h6 (by decide)
    have k0:Out C H Q E (LM.both (LM.mGrid6 LM.IF u.reverse) (LM.mBasses LM.IB (t.drop 6))):=by
     rw[← hu];exact k
    have k1:Out C H2 Q E (LM.both (LM.mGrid6 LM.IF u.reverse) (LM.mBasses LM.IB (t.drop 6))):=by
     revert k0
     cases LM.both (LM.mGrid6 LM.IF u.reverse) (LM.mBasses LM.IB (t.drop 6)) with
     | none=>exact fun k0 H3 s3=>k0 H3 (Same.trans h2 s3)
     | some l=>exact fun k0 H3 p s3 hp hl=>k0 H3 p (Same.trans h2 s3) (Same.free h2 hp) hl
    have k':=nR (C:=C) k1 (fun l h=>jY h) (fun l h=>by
     have:=iY h
     rw[List.length_drop] at this
     omega)
    cases hg:LM.mGrid6 LM.IF u.reverse with
    | none =>
     rw[hg] at k'
     exact k'
    | some l =>
     rw[hg] at k'
     intro H1 p s1 hp hl
     exact⟨_,rfl,_,rfl,T t,rfl,hsz,t.drop 6,aB,LM.IB,congrArg (fun z=>[V.str z,V.ref aB]) (eP t 6),Nat.le_trans (by rw[List.length_drop];exact Nat.sub_le _ _) hlen,gB.tab,k' H1 p s1 hp hl⟩
end
def OutS (C:Addr) (H:Hp) (Q:VK) (E:XK) (o:Option LM.St):Prop:=match o with
 | some x=>∀H' v,Same H H'->StopAt H' v x->Q v H'
 | none=>∀H',Same H H'->E (.ref C) none H'
theorem OutS.put {C:Addr}{H:Hp}{Q:VK}{E:XK}{x:LM.St} (k:OutS C H Q E (some x)) {p:Addr} (hp:H p=none) {i j:Int} (hi:i=(x.1:Nat)) (hj:j=(x.2:Nat)):Q (.ref p) (upd H p (.tup [.int i,.int j])):=by
 subst hi hj
 exact k _ _ (Same.new (Same.refl H) hp) ⟨p,rfl,ac⟩
abbrev gb:Stmt:=top 56
abbrev yB:List Str:=["sign","rounds","number","course","fret"]
def qF (C:Addr):Sp:=fun vs H Q E=>∃s:List Nat,vs=[.str (T s)]/\s.length<=70000/\OutS C H Q E (LM.mCross s)
section
variable {P:Program}{w:World}{K:W.Frag}{mg:Str->Option Value}{base:Heap}{C:Addr}
theorem scCross:FnScope yB ["sign"] (ad gb):=⟨rfl,rfl,rfl,by decide +kernel,rfl,by decide +kernel,by decide +kernel⟩
theorem vh {f:Addr}{fd:FuncData} (D:Df K mg "read_crossing" gb ["sign"] f fd) (hC:ExC K mg "NoPiece" C) (gL:mg "len" = none) (gM:GV mg "MOST_ROUNDS" (.int 3)) (gC:GV mg "GERMAN_CROSSINGS" (.str (T LM.GC))) (gX:GV mg "CROSSED_COURSES" (.int 5)) (gR:GV mg "FRETS_A_ROUND" (.int 5)) :
  FnOk P w K mg base (CXF P w C) 2 f fd ["sign"] (qF C):=by
 refine D.fn.okX scCross (fun vs H Q E h=>?_) (fun cdv A outer s H vs Q E hr h=>?_)
 ·obtain⟨s,rfl,_⟩:=h
  rfl
 ·obtain⟨s,rfl,hlen,k⟩:=h
  have hsz:(T s).length<=sizeLine:=by rw[bi];exact Nat.le_trans hlen (by decide)
  refine⟨_,ae (aG (i:=1) scCross.nd rfl (Or.inl rfl) (aR cv (by rfl) gL PySem.boot_len (aa (pv 0) ag)))
   (ae (aM (PW.pt (lz (aq lE (pv 1) ao (nomark _)) (lz (aq dg (pv 1) (bc gM rfl) (nomark _)) (jG (aq jO (pv 0) (bb wC (aJ mQ (pv 0) ao (fun _ _=>rfl)) (pv 1)) (nomark _))))))
    (ah (bd rfl (bK aP) rfl hC (aa aQ ag))) aw)
   (ae (aM (aq fg (aJ mQ (pv 0) ao (fun _ _=>rfl)) (bc gC rfl) rfl) (ah (bd rfl (bK aP) rfl hC (aa aQ ag))) aw)
   (ae (aG (i:=2) scCross.nd rfl (Or.inl rfl) (lC F.slot_str_index F.type_str_index lG (bc gC rfl) (aJ mQ (pv 0) ao (fun _ _=>rfl))))
   (ae (aG (i:=3) scCross.nd rfl (Or.inl rfl) (bb cZ (bc gX rfl) (bb yn (pv 2) (bc gX rfl))))
   (ae (aG (i:=4) scCross.nd rfl (Or.inl rfl) (bb cj (bb cj (bb mI (bc gR rfl) (bb cZ (pv 1) ao)) (bb wD (pv 2) (bc gX rfl))) ao))
   (ah (aA (bW (aa (pv 3) (aa (pv 4) ag)))))))))),?_⟩
  have bad:LM.mCross s=none->1<=sizeLine/\E (.ref C) none H:=fun e=>by
   rw[e] at k
   exact⟨by decide,k H (Same.refl H)⟩
  refine⟨_,rfl,T s,rfl,hsz,?_⟩
  rw[bi]
  refine⟨_,rfl,_,_,rfl,rfl,_,rfl,ite2 (fun h1=>yI (bad ?_)) fun h1=>?_⟩
  ·have:(s.length:Int)<1:=of_decide_eq_true h1
   unfold LM.mCross
   rw[if_pos (.inl (by omega))]
  have h1':1<=s.length:=by
   have:¬(s.length:Int)<1:=fun q=>h1 (decide_eq_true q)
   omega
  refine⟨_,rfl,_,_,rfl,rfl,_,rfl,ite2 (fun h2=>yI (bad ?_)) fun h2=>?_⟩
  ·have:(3:Int)<(s.length:Int):=of_decide_eq_true h2
   unfold LM.mCross
   rw[if_pos (.inr (.inl (by omega)))]
  have h2':s.length<=3:=by
   have:¬(3:Int)<(s.length:Int):=fun q=>h2 (decide_eq_true q)
   omega
  cases s with
  | nil=>exact absurd h1' (by decide)
  | cons c r =>
   refine⟨_,rfl,_,rfl,T (c::r),_,c,rfl,rfl,hsz,az (j:=0) rfl,_,rfl,c,(c::r).length,rfl,rfl,h1',Nat.le_trans h2' (by decide),rfl,_,rfl,ite2 (fun h3=>bad ?_) fun h3=>?_⟩
   ·have:¬c::r=List.replicate (c::r).length c:=fun q=>iW h3 (strT_eq.mpr q)
    unfold LM.mCross
    rw[if_pos (.inr (.inr this))]
   have h3':c::r=List.replicate (c::r).length c:=strT_eq.mp (nnd_of h3:V.str (T (c::r))=V.str (T (List.replicate (c::r).length c)))
   have em:LM.mCross (c::r)=match LM.GC.idxOf? c with
     | none=>none
     | some i=>some (5-i % 5,5 * ((c::r).length-1)+i / 5+1):=by
    unfold LM.mCross
    rw[if_neg (by
     rintro (q | q | q)
     ·omega
     ·omega
     ·exact q h3')]
    rfl
   refine⟨_,rfl,T (c::r),_,c,rfl,rfl,hsz,az (j:=0) rfl,c,T LM.GC,rfl,rfl,_,rfl,ite2 (fun hin=>bad ?_) fun hin=>?_⟩
   ·rw[em,LM.idx_none (show c∉LM.GC from iW hin)]
   have hm:c∈LM.GC:=nnd_of hin
   cases hx:LM.GC.idxOf? c with
   | none=>exact absurd hm (bh hx)
   | some i =>
    obtain⟨g1,g2⟩:=cx hx
    rw[em,hx] at k
    refine⟨⟨_,rfl⟩,_,rfl,T (c::r),_,c,rfl,rfl,hsz,az (j:=0) rfl,T LM.GC,c,i,rfl,rfl,g1,g2,?_⟩
    refine⟨_,rfl,_,_,rfl,rfl,(by show (0:Int)<5;decide),_,_,rfl,rfl,?_⟩
    refine⟨_,rfl,_,_,rfl,rfl,_,_,rfl,rfl,.inl ⟨by decide,by decide⟩,_,rfl,_,_,rfl,rfl,⟨by decide,by decide⟩,_,_,rfl,rfl,_,_,rfl,rfl,?_⟩
    refine⟨_,rfl,_,rfl,(by show 2<=sizeLine;decide),fun p hp=>?_⟩
    refine k.put hp ?_ ?_
    ·show (5:Int)-(i:Int) % 5=((5-i % 5:Nat):Int)
     omega
    ·show (5:Int) * (((c::r).length:Nat)-1:Int)+(i:Int) / 5+1=((5 * ((c::r).length-1)+i / 5+1:Nat):Int)
     omega
end
abbrev cD:Stmt:=top 57
def lw (C:Addr):Sp:=fun vs H Q E=>∃s:List Nat,vs=[.str (T s)]/\s.length<=70000/\OutS C H Q E (LM.mGermanStop s)
section
variable {P:Program}{w:World}{K:W.Frag}{mg:Str->Option Value}{base:Heap}{C:Addr}
theorem rW:FnScope ["sign"] ["sign"] (ad cD):=⟨rfl,rfl,rfl,by decide +kernel,rfl,by decide +kernel,by decide +kernel⟩
theorem pH {f fX:Addr}{fd fdX:FuncData}{aN aS aB:Addr} (D:Df K mg "read_german_stop" cD ["sign"] f fd) (DX:Df K mg "read_crossing" gb ["sign"] fX fdX) (GX:FnOk P w K mg base (CXF P w C) 2 fX fdX ["sign"] (qF C))
  (gN:GT K mg "GERMAN_NUT" (tv LM.NUT) aN) (gS:GT K mg "GERMAN_SIXTH" (tv LM.SIXTH) aS) (gB:GT K mg "GERMAN_BASSES" (tv LM.GB) aB) (gF:GV mg "FIRST_BASS" (.int 7)):FnOk P w K mg base (CXF P w C) 3 f fd ["sign"] (lw C):=by
 refine D.fn.okX rW (fun vs H Q E h=>?_) (fun cdv A outer s H vs Q E hr h=>?_)
 ·obtain⟨s,rfl,_⟩:=h
  rfl
 ·obtain⟨s,rfl,hlen,k⟩:=h
  refine⟨_,ae (aM (aq df (pv 0) (dM gN rfl) rfl) (ah (aA (bW (aa (bb cj ao (cS F.plainAttrs_tuple F.slot_tuple_index F.type_tuple_index di (dM gN rfl) (aa (pv 0) ag))) (aa ao ag))))) aw)
   (ae (aM (aq df (pv 0) (dM gS rfl) rfl) (ah (aA (bW (aa ao (aa (cS F.plainAttrs_tuple F.slot_tuple_index F.type_tuple_index di (dM gS rfl) (aa (pv 0) ag)) ag))))) aw)
   (ae (aM (aq df (pv 0) (dM gB rfl) rfl) (ah (aA (bW (aa (bb cj (bc gF rfl) (cS F.plainAttrs_tuple F.slot_tuple_index F.type_tuple_index di (dM gB rfl) (aa (pv 0) ag))) (aa ao ag))))) aw)
   (ah (aA (aE GX hr rfl DX.at_ DX.fn.kp DX.b .nil (de aP) (aa (pv 0) ag)))))),?_⟩
  have eq1:eqV (.str (T s)) (.str (T s))=true:=by rw[ro];exact decide_eq_true rfl
  refine⟨_,rfl,aN,tv LM.NUT,rfl,.inr (gN.tab.sq _),rfl,cp _,_,rfl,?_⟩
  rw[if_neg (by decide),iC]
  refine ite2 (fun h1=>?_) fun h1=>?_
  ·cases hx:LM.NUT.idxOf? s with
   | none=>exact absurd (of_decide_eq_true h1) (bh hx)
   | some i =>
    obtain⟨g1,g2⟩:=qm hx
    have e:LM.mGermanStop s=some (1+i,0):=by unfold LM.mGermanStop;rw[hx]
    rw[e] at k
    refine⟨.inr (.inl ⟨rfl,gN.tab.ty⟩),_,rfl,aN,tv LM.NUT,_,i,_,rfl,rfl,gN.tab.sq _,rfl,cp _,g1,eq1,g2,_,_,rfl,rfl,(by show 2<=sizeLine;decide),fun p hp=>?_⟩
    refine k.put hp ?_ rfl
    show (1:Int)+(i:Nat)=((1+i:Nat):Int)
    omega
  have n1:LM.NUT.idxOf? s=none:=LM.idx_none fun q=>h1 (decide_eq_true q)
  refine⟨_,rfl,aS,tv LM.SIXTH,rfl,.inr (gS.tab.sq _),rfl,cp _,_,rfl,?_⟩
  rw[if_neg (by decide),iC]
  refine ite2 (fun h2=>?_) fun h2=>?_
  ·cases hx:LM.SIXTH.idxOf? s with
   | none=>exact absurd (of_decide_eq_true h2) (bh hx)
   | some i =>
    obtain⟨g1,g2⟩:=qm hx
    have e:LM.mGermanStop s=some (6,i):=by unfold LM.mGermanStop;rw[n1,hx]
    rw[e] at k
    refine⟨.inr (.inl ⟨rfl,gS.tab.ty⟩),_,rfl,aS,tv LM.SIXTH,_,i,_,rfl,rfl,gS.tab.sq _,rfl,cp _,g1,eq1,g2,(by show 2<=sizeLine;decide),fun p hp=>?_⟩
    exact k.put hp rfl rfl
  have n2:LM.SIXTH.idxOf? s=none:=LM.idx_none fun q=>h2 (decide_eq_true q)
  refine⟨_,rfl,aB,tv LM.GB,rfl,.inr (gB.tab.sq _),rfl,cp _,_,rfl,?_⟩
  rw[if_neg (by decide),iC]
  refine ite2 (fun h3=>?_) fun h3=>?_
  ·cases hx:LM.GB.idxOf? s with
   | none=>exact absurd (of_decide_eq_true h3) (bh hx)
   | some i =>
    obtain⟨g1,g2⟩:=qm hx
    have e:LM.mGermanStop s=some (7+i,0):=by unfold LM.mGermanStop;rw[n1,n2,hx]
    rw[e] at k
    refine⟨.inr (.inl ⟨rfl,gB.tab.ty⟩),_,rfl,aB,tv LM.GB,_,i,_,rfl,rfl,gB.tab.sq _,rfl,cp _,g1,eq1,g2,_,_,rfl,rfl,(by show 2<=sizeLine;decide),fun p hp=>?_⟩
    refine k.put hp ?_ rfl
    show (7:Int)+(i:Nat)=((7+i:Nat):Int)
    omega
  have n3:LM.GB.idxOf? s=none:=LM.idx_none fun q=>h3 (decide_eq_true q)
  have e:LM.mGermanStop s=LM.mCross s:=by unfold LM.mGermanStop;rw[n1,n2,n3]
  rw[e] at k
  exact⟨_,rfl,s,rfl,hlen,k⟩
end
theorem bO (d:Nat):∀l:List Nat,∀p∈LM.spl d l,p.length<=l.length
 | [],p,h=>by
  simp[LM.spl] at h
  subst h
  simp
 | c::l,p,h=>by
  have ih:=bO d l
  unfold LM.spl at h
  split at h
  ·rcases List.mem_cons.mp h with rfl | h
   ·simp
   ·have:=ih p h;simp;omega
  ·cases h2:LM.spl d l with
   | nil=>exact absurd h2 (LM.spl_ne _ _)
   | cons a r =>
    rw[h2] at h ih
    rcases List.mem_cons.mp h with rfl | h
    ·have:=ih a (by simp);simp;omega
    ·have:=ih p (by simp[h]);simp;omega
abbrev cQ:Stmt:=top 58
abbrev qU:List Str:=["text","sign"]
def nA (C:Addr):Sp:=fun vs H Q E=>∃t:List Nat,vs=[.str (T t)]/\t.length<=70000/\Out C H Q E (LM.mGerman t)
section
variable {P:Program}{w:World}{K:W.Frag}{mg:Str->Option Value}{base:Heap}{C:Addr}
theorem scGerman:FnScope qU ["text"] (ad cQ):=⟨rfl,rfl,rfl,by decide +kernel,rfl,by decide +kernel,by decide +kernel⟩
theorem sJ {f f1:Addr}{fd fd1:FuncData} (D:Df K mg "read_german_stops" cQ ["text"] f fd) (D1:Df K mg "read_german_stop" cD ["sign"] f1 fd1) (G1:FnOk P w K mg base (CXF P w C) 3 f1 fd1 ["sign"] (lw C)) :
  FnOk P w K mg base (CXF P w C) 4 f fd ["text"] (nA C):=by
 refine D.fn.okX scGerman (fun vs H Q E h=>?_) (fun cdv A outer s H vs Q E hr h=>?_)
 ·obtain⟨t,rfl,_⟩:=h
  rfl
 ·obtain⟨t,rfl,hlen,k⟩:=h
  refine⟨_,ae (aM (aq bz (pv 0) aQ (nomark _)) (ah (aA (bn ag))) aw)
   (ah (aA (yk aP (own:=[("sign",1)]) rfl scGerman.nd (bo (dX (pv 0) aQ))
    (BlkOk.mk (N:=qU) (sc:=ad cQ) rfl (by decide +kernel) (by decide +kernel) (by decide +kernel) (by decide +kernel)) (fun _ _ _ _ _=>aD (i:=1) scGerman.nd rfl (Or.inl rfl)) (fun _ _ _ _ _=>cr)
    (fun _ _ _ _ _=>aE G1 hr rfl D1.at_ D1.fn.kp D1.b .nil ss (aa (pv 1) ag))))),?_⟩
  refine⟨_,rfl,rfl,_,rfl,ite2 (fun h1=>?_) fun h1=>?_⟩
  ·have e1:t=[46]:=strT_eq.mp (of_decide_eq_true h1:V.str (T t)=V.str (T [46]))
   have e:LM.mGerman t=some []:=by unfold LM.mGerman;rw[if_pos e1]
   rw[e] at k
   exact⟨Nat.zero_le _,fun p hp=>k _ p (Same.new (Same.refl H) hp) hp ⟨[],ac,.nil⟩⟩
  have e1:¬t=[46]:=fun q=>h1 (decide_eq_true (strT_eq.mpr q:V.str (T t)=V.str (T [46])))
  have e:LM.mGerman t=LM.mGermanList (LM.spl 32 t):=by unfold LM.mGerman;rw[if_neg e1]
  rw[e] at k
  refine⟨_,rfl,⟨_,rfl⟩,T t,T [32],rfl,rfl,rfl,?_,fun pp hpp=>?_⟩
  ·rw[bi];exact Nat.le_trans (Nat.add_le_add_right hlen 2) (by decide)
  rw[gm 32 (by decide)]
  have hps:=bO 32 t
  have hlps:(LM.spl 32 t).length<=70001:=Nat.le_trans (dq 32 t) (by omega)
  generalize LM.spl 32 t=ps at k hps hlps
  have ev:(ps.map T).map V.str=tv ps:=by
   rw[List.map_map]
   rfl
  rw[ev]
  have s1:Same H (upd H pp (.lst (tv ps))):=Same.new (Same.refl H) hpp
  refine⟨pp,rfl,⟨_,SqL.of ac⟩,fun L hL=>?_⟩
  have hLn:H L=none:=s1.free hL
  refine dE (K:=K) (a:=pp) (xs:=tv ps) (fun i H'=>∃vs l,H' pp=some (.lst (tv ps))/\H' L=some (.lst vs)/\Paired (StopAt H') vs l/\Same H H'/\l.length<=i/\LM.mGermanList ps=(LM.mGermanList (ps.drop i)).map (l++·))
   ⟨[],[],by rw[ai (af ac hL)];exact ac,ac,.nil,s1.new hL,Nat.le_refl _,map_app_nil.symm⟩ (fun i H' _ ⟨_,_,h1,_⟩=>SqL.of h1) ?_ ?_
  ·rintro i x H' hx ⟨vs,l,hq',h1,h2,h3,h4,h5⟩
   rw[List.getElem?_map] at hx
   cases hn:ps[i]? with
   | none=>rw[hn] at hx;cases hx
   | some sg =>
    rw[hn] at hx
    cases hx
    have hi:=(List.getElem?_eq_some_iff.mp hn).1
    have hdrop:ps.drop i=sg::ps.drop (i+1):=by
     rw[List.drop_eq_getElem_cons hi]
     congr 1
     exact (List.getElem?_eq_some_iff.mp hn).2
    rw[hdrop] at h5
    have hsg:sg.length<=70000:=Nat.le_trans (hps sg (List.mem_of_getElem? hn)) hlen
    refine⟨rfl,mn ?_⟩
    refine⟨_,rfl,sg,rfl,hsg,?_⟩
    have eg:LM.mGermanList (sg::ps.drop (i+1))=match LM.mGermanStop sg with
      | none=>none
      | some x=>(LM.mGermanList (ps.drop (i+1))).map (x::·):=by
     conv=>lhs;unfold LM.mGermanList
     all_goals rfl
    cases hx:LM.mGermanStop sg with
    | none =>
     rw[h5,eg,hx] at k
     exact fun H4 s4=>k _ (h3.trans s4)
    | some x =>
     rw[hx] at eg
     intro H4 v s4 hv
     have p1:=s4 _ _ h1
     have q1:=aH (fun a xs e=>s4 _ _ e) h2
     refine⟨vs,p1,?_,vs++[v],l++[x],?_,ac,?_,?_,?_,?_⟩
     ·rw[h2.length]
      exact Nat.lt_of_le_of_lt h4 (Nat.lt_of_lt_of_le hi (Nat.le_trans hlps (by decide)))
     ·rw[ai (fun z=>by rw[z] at hpp;rw[z] at hL;rw[ac] at hL;cases hL)]
      exact s4 _ _ hq'
     ·exact aV (aH (bx p1) q1) (hv.mono (bx p1))
     ·intro b o e
      rw[ai (af e hLn)]
      exact (h3.trans s4) b o e
     ·simp;omega
     ·rw[h5,eg]
      cases LM.mGermanList (ps.drop (i+1)) <;> simp
  ·rintro H' ⟨vs,l,hq',h1,h2,h3,h4,h5⟩
   have e0:ps.drop (tv ps).length=[]:=by
    rw[List.drop_eq_nil_iff]
    simp
   rw[e0] at h5
   have e3:LM.mGermanList ps=some l:=by rw[h5];simp[LM.mGermanList]
   rw[e3] at k
   exact k H' L h3 hLn ⟨vs,h1,h2⟩
end
theorem xq {K:PySem.W.Frag}{a b:Addr}{xs ys:List V}{n:Nat} (hn:min xs.length ys.length=n) {g:TG}{tb:TS}{D:Ends}{σ:L2.St}{H:Hp} (Pv:Nat->L2.St->Hp->Prop) (h0:Pv 0 σ H) (hl:∀i σ H,i<=n->Pv i σ H->SqL K H a xs/\SqL K H b ys)
  (turn:∀i x y σ H T,xs[i]?=some x->ys[i]?=some y->Pv i σ H->H T=none->g (.ref T) σ (upd H T (.tup [x,y])) fun σ2 H2=>tb {D with nx:=Pv (i+1),ct:=Pv (i+1),bk:=D.nx} σ2 H2) (after:∀σ H,Pv n σ H->D.nx σ H) :
  ∃W:Nat->Nat->L2.St->Hp->Prop,(∃m,W 0 m σ H)/\∀i m σ H,W i m σ H ->
   ((Itz K a b).stop i H/\D.nx σ H)∨((Itz K a b).go i H/\∃N:L2.St->Hp->Prop,(∀σ' H',N σ' H'->∃m',m'<m/\W (i+1) m' σ' H')/\∀x H',(Itz K a b).yld i H x H'->g x σ H' fun σ2 H2=>tb {D with nx:=N,ct:=N,bk:=D.nx} σ2 H2):=by
 refine⟨fun i m σ H=>m=n-i/\i<=n/\Pv i σ H,⟨n,by simp,Nat.zero_le _,h0⟩,?_⟩
 rintro i m σ H ⟨rfl,hi,p⟩
 obtain⟨q1,q2⟩:=hl i σ H hi p
 by_cases hlt:i<n
 ·have hx:i<xs.length:=by omega
  have hy:i<ys.length:=by omega
  refine .inr ⟨⟨xs,ys,xs[i],ys[i],q1,q2,by simp[hx],by simp[hy]⟩,Pv (i+1),fun σ' H' p'=>⟨n-(i+1),by omega,rfl,hlt,p'⟩,?_⟩
  rintro v H' ⟨T,x,y,rfl,hT,rfl,e1,e2⟩
  exact turn i x y σ H T (e1 xs q1) (e2 ys q2) p hT
 ·have e:i=n:=by omega
  subst e
  exact .inl ⟨⟨xs,ys,q1,q2,by omega⟩,after σ H p⟩
theorem rise_iff:∀{l:List LM.St},LM.rise l=true↔∀j x y,l[j]?=some x->l[j+1]?=some y->x.1<y.1
 | []=>by simp[LM.rise]
 | [a]=>by
  simp only[LM.rise,LM.chain,true_iff]
  intro j x y _ h
  simp at h
 | a::b::r=>by
  have ih:=rise_iff (l:=b::r)
  have e:LM.rise (a::b::r)=(decide (a.1<b.1)&&LM.rise (b::r)):=rfl
  rw[e,Bool.and_eq_true,decide_eq_true_eq,ih]
  constructor
  ·rintro⟨h1,h2⟩ j x y hx hy
   cases j with
   | zero =>
    simp at hx hy
    subst hx hy
    exact h1
   | succ j=>exact h2 j x y (by simpa using hx) (by simpa using hy)
  ·intro h
   exact⟨h 0 a b rfl rfl,fun j x y hx hy=>h (j+1) x y (by simpa using hx) (by simpa using hy)⟩
theorem aI {α β:Type}{F:α->β->Prop}:∀{l:List α}{m:List β}{i:Nat}{a:α},Paired F l m->l[i]?=some a->∃b,m[i]?=some b/\F a b
 | _,_,i,a,.nil,h=>by simp at h
 | _,_,0,a,.cons r t,h=>by
  simp at h
  subst h
  exact⟨_,rfl,r⟩
 | _,_,i+1,a,.cons r t,h=>by
  obtain⟨b,h1,h2⟩:=aI (i:=i) (a:=a) t (by simpa using h)
  exact⟨b,by simpa using h1,h2⟩
theorem gH {c A B:Prop} [Decidable c] (hc:c) (h:A):if c then A else B:=by rw[if_pos hc];exact h
theorem iB {c A B:Prop} [Decidable c] (hc:¬c) (h:B):if c then A else B:=by rw[if_neg hc];exact h
abbrev du:Stmt:=top 59
abbrev vk:List Str:=["kind","text","stops","higher","lower"]
def kw (k:Nat):List Nat:=LM.KINDS.getD k []
def qu (C:Addr):Sp:=fun vs H Q E=>∃(kd:Nat) (t:List Nat),kd<3/\vs=[.str (T (kw kd)),.str (T t)]/\t.length<=70000/\Out C H Q E (LM.mStops kd t)
section
variable {P:Program}{w:World}{K:W.Frag}{mg:Str->Option Value}{base:Heap}{C:Addr}
theorem scStops:FnScope vk ["kind","text"] (ad du):=⟨rfl,rfl,rfl,by decide +kernel,rfl,by decide +kernel,by decide +kernel⟩
theorem uW {f fF fI fG:Addr}{fd fdF fdI fdG:FuncData} (D:Df K mg "read_stops" du ["kind","text"] f fd) (DF:Df K mg "read_french_stops" dz ["text"] fF fdF) (DI:Df K mg "read_italian_stops" bZ ["text"] fI fdI) (DG:Df K mg "read_german_stops" cQ ["text"] fG fdG)
  (GF:FnOk P w K mg base (CXF P w C) 3 fF fdF ["text"] (nB C)) (GI:FnOk P w K mg base (CXF P w C) 3 fI fdI ["text"] (lu C)) (GG:FnOk P w K mg base (CXF P w C) 4 fG fdG ["text"] (nA C)) (hC:ExC K mg "NoPiece" C) (gZ:mg "zip" = none) :
  FnOk P w K mg base (CXF P w C) 5 f fd ["kind","text"] (qu C):=by
 refine D.fn.okX scStops (fun vs H Q E h=>?_) (fun cdv A outer s H vs Q E hr h=>?_)
 ·obtain⟨kd,t,_,rfl,_⟩:=h
  rfl
 ·obtain⟨kd,t,hkd,rfl,hlen,k⟩:=h
  have hr3:=hr.mono (show 3<=4 by decide)
  have rest:∃u,PSs (cxOf (CXF P w C) P w K mg base vk "read_stops" (ad du) f cdv A outer s H E) ((au du).drop 1) u/\∀(H1:Hp) (p:Addr) (l:List LM.St),Same H H1->H p=none->StopsAt H1 p l->Out C H Q E (LM.risen (some l)) ->
    u {nx:=fun _ H'=>Q .non H',rt:=Q} [some (.str (T (kw kd))),some (.str (T t)),some (.ref p),none,none] H1:=by
   refine⟨_,ae (br bR rfl (uO rfl gZ (aa (pv 2) (aa (bp gn (pv 2) (bC ao) bQ) ag))) (bV (n:=2) rfl (aO (aD (i:=3) scStops.nd rfl (Or.inl rfl)) (aO (aD (i:=4) scStops.nd rfl (Or.inl rfl)) bD)))
     (ah (aM (aq zl (aJ aX (pv 3) ao (fun _ _=>rfl)) (aJ aX (pv 4) ao (fun _ _=>rfl)) (nomark _)) (ah (bd rfl (bK aP) rfl hC (aa aQ ag))) aw)))
    (ah (aA (pv 2))),fun H1 p l s1 hp ⟨vs,e1,r1⟩ kk=>?_⟩
   refine⟨_,rfl,_,rfl,_,rfl,p,vs,rfl,SqL.of e1,fun q hq=>?_⟩
   have ecut:∀j,(zdl vs (some 1) none)[j]?=vs[j+1]?:=fun j=>by
    cases vs with
    | nil =>
     have:zdl ([]:List V) (some 1) none=[]:=rfl
     rw[this]
     simp
    | cons x xs=>rw[eO];simp
   have elen:min vs.length (zdl vs (some 1) none).length=vs.length-1:=by
    cases vs with
    | nil=>rfl
    | cons x xs=>rw[eO];simp
   have s2:=s1.new (o:=.lst (zdl vs (some 1) none)) hq
   refine⟨p,q,vs,_,rfl,SqL.of (by rw[ai (af e1 hq)];exact e1),SqL.of ac,xq (K:=K) (a:=p) (b:=q) elen (fun i σ H'=>∃v3 v4,σ=[some (.str (T (kw kd))),some (.str (T t)),some (.ref p),v3,v4]/\H' p=some (.lst vs)/\H' q=some (.lst (zdl vs (some 1) none))/\Paired (StopAt H') vs l/\Same H H'/\∀j x y,j<i->l[j]?=some x->l[j+1]?=some y->x.1<y.1)
    ⟨none,none,rfl,by rw[ai (af e1 hq)];exact e1,ac,aH (bA hq) r1,s2,fun j x y hj=>absurd hj (Nat.not_lt_zero _)⟩ (fun i σ H' _ ⟨_,_,_,h1,h2,_⟩=>⟨SqL.of h1,SqL.of h2⟩) ?_ ?_⟩
   ·rintro i x y σ H' tt hx hy ⟨v3,v4,rfl,h1,h2,h3,h4,h5⟩ ht
    rw[ecut] at hy
    obtain⟨x',ex,ax,rfl,hax⟩:=aI h3 hx
    obtain⟨y',ey,ay,rfl,hay⟩:=aI h3 hy
    have nt:=bA (o:=.tup [.ref ax,.ref ay]) ht
    refine⟨tt,_,rfl,SqT.of ac,rfl,_,_,rfl,_,_,rfl,rfl,?_⟩
    refine⟨_,rfl,ax,_,_,_,rfl,rfl,SqT.of (nt _ _ hax),az (j:=0) rfl,_,rfl,ay,_,_,_,rfl,rfl,SqT.of (nt _ _ hay),az (j:=0) rfl,_,_,rfl,rfl,_,rfl,ite2 (fun hge=>?_) fun hge=>?_⟩
    ·refine⟨(by show 1<=sizeLine;decide),?_⟩
     have hge':((y'.1:Nat):Int)<=(x'.1:Nat):=of_decide_eq_true hge
     have:LM.rise l=false:=by
      cases hr:LM.rise l with
      | false=>rfl
      | true =>
       have:=rise_iff.mp hr i x' y' ex ey
       omega
     have e:LM.risen (some l)=none:=by simp[LM.risen,this]
     rw[e] at kk
     exact kk _ (h4.new ht)
    ·have hlt:¬((y'.1:Nat):Int)<=(x'.1:Nat):=fun q=>hge (decide_eq_true q)
     refine⟨_,_,rfl,by rw[ai (af h1 ht)];exact h1,by rw[ai (af h2 ht)];exact h2,aH nt h3,h4.new ht,fun j x1 y1 hj hx1 hy1=>?_⟩
     by_cases hji:j=i
     ·subst hji
      rw[hx1] at ex;cases ex
      rw[hy1] at ey;cases ey
      omega
     ·exact h5 j x1 y1 (by omega) hx1 hy1
   ·rintro σ H' ⟨v3,v4,rfl,h1,h2,h3,h4,h5⟩
    refine⟨_,rfl,?_⟩
    have hr:LM.rise l=true:=rise_iff.mpr fun j x y hx hy=>h5 j x y (by
     have:=(List.getElem?_eq_some_iff.mp hy).1
     have:=h3.length
     omega) hx hy
    have e:LM.risen (some l)=some l:=by simp[LM.risen,hr]
    rw[e] at kk
    exact kk H' p h4 hp ⟨vs,h1,h3⟩
  obtain⟨u,hu,ru⟩:=rest
  refine⟨_,ae (aM (aq bz (pv 0) aQ (nomark _)) (ah (aG (i:=2) scStops.nd rfl (Or.inl rfl) (aE GF hr3 rfl DF.at_ DF.fn.kp DF.b .nil (de aP) (aa (pv 1) ag))))
    (ah (aM (aq bz (pv 0) aQ (nomark _)) (ah (aG (i:=2) scStops.nd rfl (Or.inl rfl) (aE GI hr3 rfl DI.at_ DI.fn.kp DI.b .nil (de aP) (aa (pv 1) ag))))
     (ah (aG (i:=2) scStops.nd rfl (Or.inl rfl) (aE GG hr rfl DG.at_ DG.fn.kp DG.b .nil (de aP) (aa (pv 1) ag))))))) hu,?_⟩
  have go:∀o:Option (List LM.St),Out C H Q E (LM.risen o)->Out C H (fun x H1=>u {nx:=fun _ H'=>Q .non H',rt:=Q} [some (.str (T (kw kd))),some (.str (T t)),some x,none,none] H1) E o:=by
   intro o ko
   cases o with
   | none=>exact ko
   | some l=>exact fun H1 p s1 hp hl=>ru H1 p l s1 hp hl ko
  refine⟨_,rfl,rfl,_,rfl,?_⟩
  match kd,hkd with
  | 0,_ =>
   refine gH (show decide (V.str (T (kw 0))=V.str (Str.ofString "french"))=true by decide +kernel) ?_
   exact⟨_,rfl,t,rfl,hlen,go _ k⟩
  | 1,_ =>
   refine iB (show ¬decide (V.str (T (kw 1))=V.str (Str.ofString "french"))=true by decide +kernel) ?_
   refine⟨_,rfl,rfl,_,rfl,?_⟩
   refine gH (show decide (V.str (T (kw 1))=V.str (Str.ofString "italian"))=true by decide +kernel) ?_
   exact⟨_,rfl,t,rfl,hlen,go _ k⟩
  | 2,_ =>
   refine iB (show ¬decide (V.str (T (kw 2))=V.str (Str.ofString "french"))=true by decide +kernel) ?_
   refine⟨_,rfl,rfl,_,rfl,?_⟩
   refine iB (show ¬decide (V.str (T (kw 2))=V.str (Str.ofString "italian"))=true by decide +kernel) ?_
   exact⟨_,rfl,t,rfl,hlen,go _ k⟩
end
abbrev dw:Stmt:=top 60
def sW:List (Str×Int):=LM.LEN.map fun p=>(T p.1,(p.2:Int))
theorem lV (s:List Nat):∀l:List (List Nat×Nat),KTD.datumAt (T s) (l.map fun p=>(T p.1,(p.2:Int)))=(l.lookup s).map fun n=>(n:Int)
 | []=>rfl
 | (a,n)::l=>by
  have ih:=lV s l
  show (if decide (T s=T a)=true then some (n:Int) else KTD.datumAt (T s) (l.map fun p=>(T p.1,(p.2:Int))))=_
  rw[ih,List.lookup_cons]
  by_cases e:s=a
  ·subst e
   simp
  ·have h1:decide (T s=T a)=false:=decide_eq_false fun q=>e (vY q)
   have h2:(s==a)=false:=by simp[e]
   rw[h1,h2]
   rfl
def Aj (C:Addr) (H:Hp) (Q:VK) (E:XK) (o:Option Nat):Prop:=match o with
 | some n=>Q (.int (n:Nat)) H
 | none=>E (.ref C) none H
def nw (C:Addr):Sp:=fun vs H Q E=>∃(s:List Nat) (last:Nat),vs=[.str (T s),.int (last:Nat)]/\Aj C H Q E (LM.mLength s last)
structure GD (K:W.Frag) (mg:Str->Option Value) (x:Str) (D:List (Str×Int)) (a:Addr):Prop where
 at_:mg x=some (.ref a)
 tab:kP K a D
section
variable {P:Program}{w:World}{K:W.Frag}{mg:Str->Option Value}{base:Heap}{C:Addr}
abbrev wX:List Str:=["sign","length_before"]
theorem uw:FnScope wX ["sign","length_before"] (ad dw):=⟨rfl,rfl,rfl,by decide +kernel,rfl,by decide +kernel,by decide +kernel⟩
theorem sw {f:Addr}{fd:FuncData}{aL:Addr} (D:Df K mg "read_length" dw ["sign","length_before"] f fd) (hC:ExC K mg "NoPiece" C) (gL:GD K mg "LENGTHS" sW aL):FnOk P w K mg base (CXF P w C) 2 f fd ["sign","length_before"] (nw C):=by
 refine D.fn.okX uw (fun vs H Q E h=>?_) (fun cdv A outer s H vs Q E hr h=>?_)
 ·obtain⟨s,last,rfl,_⟩:=h
  rfl
 ·obtain⟨s,last,rfl,k⟩:=h
  refine⟨_,ae (aM (aq bz (pv 0) aQ (nomark _)) (ae (aM (aq bz (pv 1) ao (nomark _)) (ah (bd rfl (bK aP) rfl hC (aa aQ ag))) aw) (ah (aA (pv 1)))) aw)
   (ae (aM (aq mH (pv 0) (gr (v:=.ref aL) rfl gL.at_ rfl) rfl) (ah (bd rfl (bK aP) rfl hC (aa aQ ag))) aw)
   (ae (aM (aq bz (aJ vA (gr (v:=.ref aL) rfl gL.at_ rfl) (pv 0) (fun _ _=>rfl)) (pv 1) (nomark _)) (ah (bd rfl (bK aP) rfl hC (aa aQ ag))) aw)
   (ah (aA (aJ vA (gr (v:=.ref aL) rfl gL.at_ rfl) (pv 0) (fun _ _=>rfl)))))),?_⟩
  refine⟨_,rfl,rfl,_,rfl,ite2 (fun h1=>?_) fun h1=>?_⟩
  ·have e1:s=[]:=strT_eq.mp (of_decide_eq_true h1:V.str (T s)=V.str (T []))
   refine⟨_,rfl,rfl,_,rfl,ite2 (fun h2=>?_) fun h2=>?_⟩
   ·have e2:last=0:=by
     have:V.int (last:Nat)=V.int 0:=of_decide_eq_true h2
     injection this with this
     omega
    have e:LM.mLength s last=none:=by unfold LM.mLength;rw[if_pos e1,if_pos e2]
    rw[e] at k
    exact⟨by show 1<=sizeLine;decide,k⟩
   ·have e2:¬last=0:=fun q=>h2 (decide_eq_true (by rw[q];rfl))
    have e:LM.mLength s last=some last:=by unfold LM.mLength;rw[if_pos e1,if_neg e2]
    rw[e] at k
    exact⟨_,rfl,k⟩
  have e1:¬s=[]:=fun q=>h1 (decide_eq_true (strT_eq.mpr q:V.str (T s)=V.str (T [])))
  have em:LM.mLength s last=match LM.LEN.lookup s with
    | none=>none
    | some n=>if n=last then none else some n:=by
   unfold LM.mLength
   rw[if_neg e1]
   all_goals rfl
  have ed:KTD.datumAt (T s) sW=(LM.LEN.lookup s).map fun n=>(n:Int):=lV s LM.LEN
  refine⟨_,rfl,T s,aL,sW,rfl,rfl,gL.tab,_,rfl,ite2 (fun h2=>?_) fun h2=>?_⟩
  ·rw[ed] at h2
   cases hl:LM.LEN.lookup s with
   | some n=>rw[hl] at h2;cases h2
   | none =>
    rw[em,hl] at k
    exact⟨by show 1<=sizeLine;decide,k⟩
  cases hl:LM.LEN.lookup s with
  | none=>rw[ed,hl] at h2;exact absurd rfl h2
  | some n =>
   rw[hl] at em ed
   rw[em] at k
   refine⟨_,rfl,T s,aL,sW,(n:Int),rfl,rfl,gL.tab,ed,_,rfl,rfl,_,rfl,ite2 (fun h3=>?_) fun h3=>?_⟩
   ·have e3:n=last:=by
     have:V.int (n:Nat)=V.int (last:Nat):=of_decide_eq_true h3
     injection this with this
     omega
    simp only[e3,if_true] at k
    exact⟨by show 1<=sizeLine;decide,k⟩
   ·have e3:¬n=last:=fun q=>h3 (decide_eq_true (by rw[q]))
    simp only[e3,if_false] at k
    exact⟨_,rfl,T s,aL,sW,(n:Int),rfl,rfl,gL.tab,ed,k⟩
end
theorem yM (r:List Nat):Txt.find (T r) (T [32])=match r.idxOf? 32 with
  | none=>-1
  | some b=>(b:Int):=by
 unfold Txt.find
 cases h:r.idxOf? 32 with
 | none =>
  have:Builtin.Str.occurrences (T r) ⟨#[32]⟩ 0 (T r).length 1=[]:=pJ (bh h)
  rw[show T [32]=⟨#[32]⟩ from rfl,this]
 | some b =>
  obtain⟨g1,g2⟩:=cx h
  have:Builtin.Str.occurrences (T r) ⟨#[32]⟩ 0 (T r).length 1=[b]:=nW g1 g2
  rw[show T [32]=⟨#[32]⟩ from rfl,this]
abbrev dv:Stmt:=top 61
abbrev wW:List Str:=["kind","row","length_before","blank","length"]
def wa (q:Option Addr) (H:Hp) (v:V) (m:Nat×List LM.St):Prop:=∃a p,v=.ref a/\H a=some (.tup [.int (m.1:Nat),.ref p])/\StopsAt H p m.2/\∀b,q=some b->p≠b
def Ak (C:Addr) (H:Hp) (Q:VK) (E:XK) (o:Option (Nat×List LM.St)):Prop:=match o with
 | some m=>∀H' a p,Same H H'->H p=none->H' a=some (.tup [.int (m.1:Nat),.ref p])->StopsAt H' p m.2->Q (.ref a) H'
 | none=>∀H',Same H H'->E (.ref C) none H'
def nv (C:Addr):Sp:=fun vs H Q E=>∃(kd:Nat) (r:List Nat) (last:Nat),kd<3/\vs=[.str (T (kw kd)),.str (T r),.int (last:Nat)]/\r.length<=70000/\Ak C H Q E (LM.mMoment kd r last)
section
variable {P:Program}{w:World}{K:W.Frag}{mg:Str->Option Value}{base:Heap}{C:Addr}
theorem scMoment:FnScope wW ["kind","row","length_before"] (ad dv):=⟨rfl,rfl,rfl,by decide +kernel,rfl,by decide +kernel,by decide +kernel⟩
theorem su {f fL fS:Addr}{fd fdL fdS:FuncData} (D:Df K mg "read_moment" dv ["kind","row","length_before"] f fd) (DL:Df K mg "read_length" dw ["sign","length_before"] fL fdL) (DS:Df K mg "read_stops" du ["kind","text"] fS fdS)
  (GL:FnOk P w K mg base (CXF P w C) 2 fL fdL ["sign","length_before"] (nw C)) (GS:FnOk P w K mg base (CXF P w C) 5 fS fdS ["kind","text"] (qu C)) (hC:ExC K mg "NoPiece" C):FnOk P w K mg base (CXF P w C) 6 f fd ["kind","row","length_before"] (nv C):=by
 refine D.fn.okX scMoment (fun vs H Q E h=>?_) (fun cdv A outer s H vs Q E hr h=>?_)
 ·obtain⟨kd,r,last,_,rfl,_⟩:=h
  rfl
 ·obtain⟨kd,r,last,hkd,rfl,hlen,k⟩:=h
  have hsz:(T r).length<=sizeLine:=by rw[bi];exact Nat.le_trans hlen (by decide)
  refine⟨_,ae (aG (i:=3) scMoment.nd rfl (Or.inl rfl) (lC F.slot_str_find F.type_str_find w4 (pv 1) aQ))
   (ae (aM (aq lE (pv 3) ao (nomark _)) (ah (bd rfl (bK aP) rfl hC (aa aQ ag))) aw)
   (ae (aG (i:=4) scMoment.nd rfl (Or.inl rfl) (aE GL (hr.mono (by decide)) rfl DL.at_ DL.fn.kp DL.b .nil (de aP) (aa (bp fD (pv 1) bQ (bC (pv 3))) (aa (pv 2) ag))))
   (ah (aA (bW (aa (pv 4) (aa (aE GS hr rfl DS.at_ DS.fn.kp DS.b .nil (de aP) (aa (pv 0) (aa (bp fD (pv 1) (bC (bb cj (pv 3) ao)) bQ) ag))) ag))))))),?_⟩
  refine⟨_,rfl,⟨_,rfl⟩,T r,T [32],rfl,rfl,?_⟩
  rw[yM]
  cases hb:r.idxOf? 32 with
  | none =>
   refine⟨_,rfl,_,_,rfl,rfl,_,rfl,gH (by decide) ?_⟩
   have e:LM.mMoment kd r last=none:=by unfold LM.mMoment;rw[hb]
   rw[e] at k
   exact⟨by show 1<=sizeLine;decide,k H (Same.refl H)⟩
  | some b =>
   refine⟨_,rfl,_,_,rfl,rfl,_,rfl,iB (by simp) ?_⟩
   have em:LM.mMoment kd r last=match LM.mLength (r.take b) last with
     | none=>none
     | some n=>(LM.mStops kd (r.drop (b+1))).map fun l=>(n,l):=by
    unfold LM.mMoment
    rw[hb]
    all_goals rfl
   refine⟨_,rfl,_,rfl,_,rfl,T r,rfl,hsz,_,rfl,r.take b,last,congrArg (fun z=>[V.str z,V.int (last:Nat)]) (iG r b),?_⟩
   cases hl:LM.mLength (r.take b) last with
   | none =>
    rw[em,hl] at k
    exact k H (Same.refl H)
   | some n =>
    rw[hl] at em
    rw[em] at k
    refine⟨_,rfl,_,rfl,_,rfl,_,rfl,_,_,rfl,rfl,_,rfl,T r,rfl,hsz,kd,r.drop (b+1),hkd,?_,?_,?_⟩
    ·exact congrArg (fun z=>[V.str (T (kw kd)),V.str z]) (eP r (b+1))
    ·exact Nat.le_trans (by rw[List.length_drop];exact Nat.sub_le _ _) hlen
    ·cases hs:LM.mStops kd (r.drop (b+1)) with
     | none =>
      rw[hs] at k
      exact k
     | some l =>
      rw[hs] at k
      intro H1 p s1 hp hl
      refine⟨by show 2<=sizeLine;decide,fun a ha=>?_⟩
      exact k _ a p (s1.new ha) hp ac (hl.same (Same.new (Same.refl H1) ha))
end
def LineAt (q:Option Addr) (H:Hp) (v:V):LM.Ln->Prop
 | none=>v=.non
 | some m=>wa q H v m
def rF (H:Hp) (q:Addr) (ls:List LM.Ln):Prop:=∃vs,H q=some (.lst vs)/\Paired (LineAt (some q) H) vs ls
theorem LineAt.but {q:Addr}{H H':Hp}{ys:List V}{v:V} (hq:H q=some (.lst ys)) (k:But q H H'):∀{x:LM.Ln},LineAt (some q) H v x->LineAt (some q) H' v x
 | none,h=>h
 | some m,h=>by
  obtain⟨a,p,rfl,ha,⟨vs,hp,hs⟩,hb⟩:=h
  have tups:∀a xs,H a=some (.tup xs)->H' a=some (.tup xs):=fun a xs e=>k a _ e (cT e hq (by intro z;cases z))
  exact⟨a,p,rfl,tups _ _ ha,⟨vs,k _ _ hp (hb q rfl),aH tups hs⟩,hb⟩
theorem iu {q:Addr}{H H':Hp}{ys:List V} (hq:H q=some (.lst ys)) (k:But q H H') {vs:List V}{ls:List LM.Ln} (h:Paired (LineAt (some q) H) vs ls):Paired (LineAt (some q) H') vs ls:=Paired.mapP h fun _ _ r=>r.but hq k
def OutL (C:Addr) (H:Hp) (Q:VK) (E:XK) (o:Option (List LM.Ln)):Prop:=match o with
 | some ls=>∀H' q,Same H H'->H q=none->rF H' q ls->Q (.ref q) H'
 | none=>∀H',Same H H'->E (.ref C) none H'
abbrev fW:Stmt:=top 62
abbrev yx:List Str:=["kind","rows","lines","length","row","moment"]
def qz (K:W.Frag) (C:Addr):Sp:=fun vs H Q E=>∃(kd:Nat) (ra:Addr) (rows:List (List Nat)),kd<3/\vs=[.str (T (kw kd)),.ref ra]/\SqL K H ra (tv rows)/\rows.length<=70001/\(∀r∈rows,r.length<=70000)/\OutL C H Q E (LM.mLines kd 0 rows)
section
variable {P:Program}{w:World}{K:W.Frag}{mg:Str->Option Value}{base:Heap}{C:Addr}
theorem scLines:FnScope yx ["kind","rows"] (ad fW):=⟨rfl,rfl,rfl,by decide +kernel,rfl,by decide +kernel,by decide +kernel⟩
theorem map_app_nilL {o:Option (List LM.Ln)}:o.map ([]++·)=o:=by cases o <;> rfl
theorem va {f fM:Addr}{fd fdM:FuncData} (D:Df K mg "read_lines" fW ["kind","rows"] f fd) (DM:Df K mg "read_moment" dv ["kind","row","length_before"] fM fdM) (GM:FnOk P w K mg base (CXF P w C) 6 fM fdM ["kind","row","length_before"] (nv C)) (hC:ExC K mg "NoPiece" C) :
  FnOk P w K mg base (CXF P w C) 7 f fd ["kind","rows"] (qz K C):=by
 refine D.fn.okX scLines (fun vs H Q E h=>?_) (fun cdv A outer s H vs Q E hr h=>?_)
 ·obtain⟨kd,ra,rows,_,rfl,_⟩:=h
  rfl
 ·obtain⟨kd,ra,rows,hkd,rfl,hR,hlen,hrow,k⟩:=h
  refine⟨_,ae (aG (i:=2) scLines.nd rfl (Or.inl rfl) (bn ag))
   (ae (aG (i:=3) scLines.nd rfl (Or.inl rfl) ao)
   (ae (br bR rfl (bo (pv 1)) (aD (i:=4) scLines.nd rfl (Or.inl rfl))
    (ah (aM (aq bz (pv 4) aQ (nomark _))
     (ah (cu (cS F.plainAttrs_list F.slot_list_append F.type_list_append bE (pv 2) (aa cE ag))))
     (ae (aG (i:=5) scLines.nd rfl (Or.inl rfl) (aE GM hr rfl DM.at_ DM.fn.kp DM.b .nil (de aP) (aa (pv 0) (aa (pv 4) (aa (pv 3) ag)))))
     (ae (aG (i:=3) scLines.nd rfl (Or.inl rfl) (aJ aX (pv 5) ao (fun _ _=>rfl)))
     (ah (cu (cS F.plainAttrs_list F.slot_list_append F.type_list_append bE (pv 2) (aa (pv 5) ag)))))))))
   (ae (aM (aq bz (pv 3) ao (nomark _)) (ah (bd rfl (bK aP) rfl hC (aa aQ ag))) aw)
   (ah (aA (pv 2)))))),?_⟩
  refine⟨Nat.zero_le _,fun q hq=>?_⟩
  have s1:Same H (upd H q (.lst [])):=Same.new (Same.refl H) hq
  refine⟨_,rfl,ra,rfl,⟨_,s1.seq hR⟩,cg (K:=K) (a:=ra) (xs:=tv rows) (fun i σ H'=>∃(last:Nat) (v4 v5:Option V) (vs:List V) (ls:List LM.Ln),σ=[some (.str (T (kw kd))),some (.ref ra),some (.ref q),some (.int (last:Nat)),v4,v5]/\H' q=some (.lst vs)/\Paired (LineAt (some q) H') vs ls/\Same H H'/\ls.length=i/\LM.mLines kd 0 rows=(LM.mLines kd last (rows.drop i)).map (ls++·))
   ⟨0,none,none,[],[],rfl,ac,.nil,s1,rfl,map_app_nilL.symm⟩ (fun i σ H' _ ⟨_,_,_,_,_,_,_,_,h3,_⟩=>h3.seq hR) ?_ ?_⟩
  ·rintro i x σ H' hx ⟨last,v4,v5,vs,ls,rfl,h1,h2,h3,h4,h5⟩
   rw[List.getElem?_map] at hx
   cases hn:rows[i]? with
   | none=>rw[hn] at hx;cases hx
   | some row =>
    rw[hn] at hx
    cases hx
    have hi:=(List.getElem?_eq_some_iff.mp hn).1
    have hdrop:rows.drop i=row::rows.drop (i+1):=by
     rw[List.drop_eq_getElem_cons hi]
     congr 1
     exact (List.getElem?_eq_some_iff.mp hn).2
    rw[hdrop] at h5
    have hvs:vs.length<sizeLine:=by
     rw[h2.length,h4]
     exact Nat.lt_of_lt_of_le hi (Nat.le_trans hlen (by decide))
    refine⟨_,rfl,rfl,_,rfl,ite2 (fun hb=>?_) fun hb=>?_⟩
    ·have eb:row=[124]:=strT_eq.mp (of_decide_eq_true hb:V.str (T row)=V.str (T [124]))
     refine⟨_,rfl,.inl ⟨rfl,_,SqL.of h1⟩,q,vs,_,rfl,rfl,h1,hvs,?_⟩
     have kb:But q H' (upd H' q (.lst (vs++[.non]))):=fun b o e hne=>by rw[ai hne];exact e
     refine⟨last,_,_,vs++[.non],ls++[none],rfl,ac,aV (iu h1 kb h2) (show LineAt (some q) _ V.non none from rfl),fun b o e=>by rw[ai (af e hq)];exact h3 b o e,by simp[h4],?_⟩
     rw[h5]
     conv=>lhs;unfold LM.mLines
     rw[if_pos eb]
     cases LM.mLines kd last (rows.drop (i+1)) <;> simp
    ·have eb:¬row=[124]:=fun z=>hb (decide_eq_true (strT_eq.mpr z:V.str (T row)=V.str (T [124])))
     have eg:LM.mLines kd last (row::rows.drop (i+1))=match LM.mMoment kd row last with
       | none=>none
       | some m=>(LM.mLines kd m.1 (rows.drop (i+1))).map (some m::·):=by
      conv=>lhs;unfold LM.mLines
      rw[if_neg eb]
      all_goals rfl
     refine⟨_,rfl,_,rfl,_,rfl,kd,row,last,hkd,rfl,hrow row (List.mem_of_getElem? hn),?_⟩
     cases hm:LM.mMoment kd row last with
     | none =>
      rw[h5,eg,hm] at k
      exact fun H4 s4=>k H4 (h3.trans s4)
     | some m =>
      rw[hm] at eg
      intro H4 a p s4 hp ha hl
      refine⟨_,rfl,a,_,_,_,rfl,rfl,SqT.of ha,az (j:=0) rfl,?_⟩
      have hq4:=s4 _ _ h1
      refine⟨_,rfl,.inl ⟨rfl,_,SqL.of hq4⟩,_,rfl,q,vs,_,rfl,rfl,hq4,hvs,?_⟩
      have kb:But q H4 (upd H4 q (.lst (vs++[.ref a]))):=fun b o e hne=>by rw[ai hne];exact e
      have pl:Paired (LineAt (some q) H4) vs ls:=iu h1 (fun b o e _=>s4 b o e) h2
      have hpq:p≠q:=fun z=>by rw[z,h1] at hp;cases hp
      have hla:LineAt (some q) H4 (.ref a) (some m):=⟨a,p,rfl,ha,hl,fun b z=>by cases z;exact hpq⟩
      refine⟨m.1,_,_,vs++[.ref a],ls++[some m],rfl,ac,aV (iu hq4 kb pl) (hla.but hq4 kb),fun b o e=>by rw[ai (af e hq)];exact (h3.trans s4) b o e,by simp[h4],?_⟩
      have eg':LM.mLines kd last (row::rows.drop (i+1))=(LM.mLines kd m.1 (rows.drop (i+1))).map (some m::·):=eg
      rw[h5,eg',Option.map_map]
      cases LM.mLines kd m.1 (rows.drop (i+1)) with
      | none=>rfl
      | some x=>simp
  ·rintro σ H' ⟨last,v4,v5,vs,ls,rfl,h1,h2,h3,h4,h5⟩
   have e0:rows.drop (tv rows).length=[]:=by
    rw[List.drop_eq_nil_iff]
    simp
   rw[e0] at h5
   refine⟨_,rfl,rfl,_,rfl,ite2 (fun hl=>?_) fun hl=>?_⟩
   ·have el:last=0:=by
     have:V.int (last:Nat)=V.int 0:=of_decide_eq_true hl
     injection this with this
     omega
    have e3:LM.mLines kd 0 rows=none:=by rw[h5];unfold LM.mLines;rw[if_pos el];rfl
    rw[e3] at k
    exact⟨by show 1<=sizeLine;decide,k H' h3⟩
   ·have el:¬last=0:=fun z=>hl (decide_eq_true (by rw[z];rfl))
    have e3:LM.mLines kd 0 rows=some ls:=by rw[h5];unfold LM.mLines;rw[if_neg el];simp
    rw[e3] at k
    exact⟨_,rfl,k H' q h3 hq ⟨vs,h1,h2⟩⟩
end
theorem xy (xs:List V) (x:V):zdl (x::xs) (some 1) (some (-1))=xs.dropLast:=by
 unfold zdl
 have e:HT.sIx (x::xs).length 0 (some ((1:Nat):Int))=1:=by
  rw[HT.sIx_nat]
  simp
 have e':HT.sIx (x::xs).length 0 (some 1)=1:=e
 have e2:HT.sIx (x::xs).length (x::xs).length (some (-1))=xs.length:=by
  show (if (-1:Int)<0 then ((-1:Int)+((x::xs).length:Nat)).toNat else min (-1:Int).toNat (x::xs).length)=_
  rw[if_pos (by decide)]
  simp only[List.length_cons]
  omega
 rw[e',e2]
 show xs.take (xs.length-1)=xs.dropLast
 rw[List.dropLast_eq_take]
abbrev fU:Stmt:=top 63
abbrev yr:Str:="SIGNS_pieces"
abbrev yu:List Str:=["codes","rows","lines"]
def qx (K:W.Frag) (C:Addr):Sp:=fun vs H Q E=>∃(a:Addr) (ns:List Nat),vs=[.ref a]/\SqL K H a (ns.map fun (n:Nat)=>V.int (n:Int))/\ns.length<=65536/\OutL C H Q E (LM.mPiece (ns.map LM.clean))
section
variable {P:Program}{w:World}{K:W.Frag}{mg:Str->Option Value}{base:Heap}{C:Addr}
theorem scPiece:FnScope yu ["codes"] (ad fU):=⟨rfl,rfl,rfl,by decide +kernel,rfl,by decide +kernel,by decide +kernel⟩
theorem OutL.later {H H1:Hp}{Q:VK}{E:XK}{o:Option (List LM.Ln)} (k:OutL C H Q E o) (s:Same H H1):OutL C H1 Q E o:=by
 cases o with
 | none=>exact fun H2 s2=>k H2 (s.trans s2)
 | some ls=>exact fun H2 q s2 hq hl=>k H2 q (s.trans s2) (s.free hq) hl
theorem u7 {f fA fL:Addr}{fd fdA fdL:FuncData}{aK:Addr} (D:Df K mg "read_piece" fU ["codes"] f fd) (DA:Df K mg "as_text" cq ["codes","signs"] fA fdA) (DL:Df K mg "read_lines" fW ["kind","rows"] fL fdL)
  (GA:FnOk P w K mg base CX0 2 fA fdA ["codes","signs"] (jB K)) (GL:FnOk P w K mg base (CXF P w C) 7 fL fdL ["kind","rows"] (qz K C)) (hC:ExC K mg "NoPiece" C) (gS:GV mg yr (.str ur)) (gK:GT K mg "KINDS" (tv LM.KINDS) aK) (gM:GV mg "MOST_LINES" (.int 512)) (gL:mg "len" = none) :
  FnOk P w K mg base (CXF P w C) 8 f fd ["codes"] (qx K C):=by
 refine D.fn.okX scPiece (fun vs H Q E h=>?_) (fun cdv A outer s H vs Q E hr h=>?_)
 ·obtain⟨a,ns,rfl,_⟩:=h
  rfl
 ·obtain⟨a,ns,rfl,hS,hlen,k⟩:=h
  refine⟨_,ae (aG (i:=1) scPiece.nd rfl (Or.inl rfl) (dX (aE (GA.calm (CX:=CXF P w C)) (hr.mono (by decide)) rfl DA.at_ DA.fn.kp DA.b .nil (de aP) (aa (pv 0) (aa (bc gS rfl) ag))) aQ))
   (ae (aM (aq jO (aJ aY (pv 1) (dW cA ao) (fun _ _=>rfl)) aQ (nomark _)) (ah (bd rfl (bK aP) rfl hC (aa aQ ag))) aw)
   (ae (aM (aq bS (aJ aY (pv 1) ao (fun _ _=>rfl)) (dM gK rfl) rfl) (ah (bd rfl (bK aP) rfl hC (aa aQ ag))) aw)
   (ae (aG (i:=2) scPiece.nd rfl (Or.inl rfl) (bp gn (pv 1) (bC ao) (bC (dW cA ao))))
   (ae (aM (aq dg (aR aZ (by rfl) gL PySem.boot_len (aa (pv 2) ag)) (bc gM rfl) (nomark _)) (ah (bd rfl (bK aP) rfl hC (aa aQ ag))) aw)
   (ah (aA (aE GL hr rfl DL.at_ DL.fn.kp DL.b .nil (de aP) (aa (aJ aY (pv 1) ao (fun _ _=>rfl)) (aa (pv 2) ag))))))))),?_⟩
  refine⟨_,rfl,a,ns,LM.SIGNS,rfl,hS,Nat.le_trans hlen (by decide),by decide,fun H1 s1=>?_⟩
  have ecl:ns.map (LM.cleanIn LM.SIGNS)=ns.map LM.clean:=rfl
  rw[ecl]
  generalize hcs:ns.map LM.clean=cs at k
  have hlc:cs.length<=65536:=by rw[← hcs,List.length_map];exact hlen
  refine⟨⟨_,rfl⟩,T cs,T [10],rfl,rfl,rfl,?_,fun pp hpp=>?_⟩
  ·rw[bi];exact Nat.le_trans (Nat.add_le_add_right hlc 2) (by decide)
  rw[gm 10 (by decide)]
  have hps:=bO 10 cs
  have hlps:=dq 10 cs
  obtain⟨hd,ps,e1⟩:∃a r,LM.spl 10 cs=a::r:=by
   cases h:LM.spl 10 cs with
   | nil=>exact absurd h (LM.spl_ne _ _)
   | cons a r=>exact⟨a,r,rfl⟩
  rw[e1] at hps hlps
  rw[e1]
  have eM:LM.mPiece cs=if (hd::ps).getLast?≠some [] then none else match LM.KINDS.idxOf? hd with
    | none=>none
    | some kd=>if 512<ps.dropLast.length then none else LM.mLines kd 0 ps.dropLast:=by
   unfold LM.mPiece
   rw[e1]
   rfl
  have ev:((hd::ps).map T).map V.str=tv (hd::ps):=by
   rw[List.map_map]
   rfl
  rw[ev]
  have s2:Same H (upd H1 pp (.lst (tv (hd::ps)))):=s1.new hpp
  have hp2:upd H1 pp (.lst (tv (hd::ps))) pp=some (.lst (tv (hd::ps))):=ac
  generalize upd H1 pp (.lst (tv (hd::ps)))=H2 at s2 hp2
  obtain⟨ini,z,ez⟩:∃ini z,hd::ps=ini++[z]:=⟨(hd::ps).dropLast,(hd::ps).getLast (by simp),(List.dropLast_concat_getLast (by simp)).symm⟩
  have elast:(hd::ps).getLast?=some z:=by rw[ez];simp
  refine⟨_,rfl,_,rfl,pp,_,_,_,rfl,rfl,SqL.of hp2,(by rw[ez,tv,List.map_append];exact o6 _ _),rfl,_,rfl,ite2 (fun h1=>?_) fun h1=>?_⟩
  ·have:¬z=[]:=fun q=>iW h1 (by rw[q];rfl)
   rw[eM,if_pos (by rw[elast];simpa using this)] at k
   exact⟨by show 1<=sizeLine;decide,k H2 s2⟩
  have hz:z=[]:=strT_eq.mp (nnd_of h1:V.str (T z)=V.str (T []))
  rw[if_neg (by rw[elast,hz];simp)] at eM
  refine⟨_,rfl,pp,_,_,_,rfl,rfl,SqL.of hp2,az (j:=0) rfl,aK,tv LM.KINDS,rfl,.inr (gK.tab.sq _),rfl,cp _,_,rfl,?_⟩
  rw[if_pos rfl,iC]
  refine ite2 (fun h2=>?_) fun h2=>?_
  ·rw[eM,LM.idx_none (iW h2)] at k
   exact⟨by show 1<=sizeLine;decide,k H2 s2⟩
  have hmem:hd∈LM.KINDS:=nnd_of h2
  cases hk:LM.KINDS.idxOf? hd with
  | none=>exact absurd hmem (bh hk)
  | some kd =>
   rw[hk] at eM
   have ekw:hd=kw kd:=by
    have:=(cx hk).1
    unfold kw
    rw[List.getD_eq_getElem?_getD,this]
    rfl
   have hkd:kd<3:=by
    have:=LM.idx_lt hk
    simpa[LM.KINDS] using this
   refine⟨_,rfl,_,rfl,_,rfl,_,rfl,pp,_,rfl,SqL.of hp2,fun ql hql=>?_⟩
   have ec:zdl (tv (hd::ps)) (some 1) (some (-1))=tv ps.dropLast:=by
    show zdl (.str (T hd)::tv ps) (some 1) (some (-1))=_
    rw[xy,tv,tv,List.map_dropLast]
   rw[ec]
   have s3:Same H (upd H2 ql (.lst (tv ps.dropLast))):=s2.new hql
   have hp3:upd H2 ql (.lst (tv ps.dropLast)) pp=some (.lst (tv (hd::ps))):=by rw[ai (af hp2 hql)];exact hp2
   refine⟨_,rfl,ql,_,rfl,.inl (SqL.of ac),_,_,rfl,rfl,_,rfl,ite2 (fun h3=>?_) fun h3=>?_⟩
   ·have:(512:Int)<((tv ps.dropLast).length:Nat):=of_decide_eq_true h3
    rw[List.length_map] at this
    dsimp only at eM
    rw[if_pos (by omega)] at eM
    rw[eM] at k
    exact⟨by show 1<=sizeLine;decide,k _ s3⟩
   ·have:¬(512:Int)<((tv ps.dropLast).length:Nat):=fun q=>h3 (decide_eq_true q)
    rw[List.length_map] at this
    dsimp only at eM
    rw[if_neg (by omega)] at eM
    rw[eM] at k
    refine⟨_,rfl,pp,_,_,_,rfl,rfl,SqL.of hp3,az (j:=0) rfl,_,rfl,kd,ql,ps.dropLast,hkd,?_,SqL.of ac,?_,?_,k.later s3⟩
    ·rw[← ekw];rfl
    ·omega
    ·intro r hr
     have:=hps r (by simp[List.dropLast_subset _ hr])
     omega
end
def xu:Stmt->List Stmt
 | .For _ _ b _ _=>b
 | _=>[]
structure DictOk (kvs:List (Key×V)) (s:List LM.St):Prop where
 keys:∃cs:List Nat,kvs.map (·.1)=cs.map (fun (c:Nat)=>(Sum.inl (c:Int):Key))/\cs.Nodup/\∀c∈cs,c<15
 val:∀c:Nat,bN kvs (Sum.inl (c:Int))=(LM.look s c).map fun (f:Nat)=>V.int (f:Int)
theorem DictOk.nil:DictOk [] []:=⟨⟨[],rfl,.nil,by simp⟩,fun c=>rfl⟩
theorem uI {κ:Type} [DecidableEq κ] {kvs:List (κ×V)}{k:κ}{v x:V} (h:bN kvs k=some x):(dA kvs k v).map (·.1)=kvs.map (·.1):=by
 unfold dA
 rw[bX,h,if_pos (show (some x).isSome=true from rfl),List.map_map]
 congr 1
 funext kv
 show (if kv.1=k then (kv.1,v) else kv).1=kv.1
 split <;> rfl
theorem DictOk.put {kvs:List (Key×V)}{s:List LM.St} (d:DictOk kvs s) {x:LM.St} (hc:x.1<15):DictOk (dA kvs (Sum.inl ((x.1:Nat):Int)) (.int ((x.2:Nat):Int))) (LM.putS s x):=by
 refine⟨?_,fun c=>?_⟩
 ·obtain⟨cs,h1,h2,h3⟩:=d.keys
  cases hv:bN kvs (Sum.inl ((x.1:Nat):Int)) with
  | some y=>exact⟨cs,by rw[uI hv];exact h1,h2,h3⟩
  | none =>
   refine⟨cs++[x.1],by rw[uJ _ hv,List.map_append,h1,List.map_append];rfl,?_,?_⟩
   ·rw[List.nodup_append]
    refine⟨h2,by simp,fun a ha b hb=>?_⟩
    simp at hb
    subst hb
    intro q
    subst q
    have:=na hv
    rw[h1] at this
    exact this (List.mem_map.mpr ⟨_,ha,rfl⟩)
   ·intro c hc'
    rcases List.mem_append.mp hc' with q | q
    ·exact h3 c q
    ·simp at q
     omega
 ·rw[m9,LM.look_put]
  by_cases e:c=x.1
  ·subst e
   rw[if_pos rfl,if_pos rfl]
   rfl
  ·rw[if_neg (fun q=>e (by injection q with q;omega)),if_neg e]
   exact d.val c
theorem DictOk.len {kvs:List (Key×V)}{s:List LM.St} (d:DictOk kvs s):kvs.length<=15:=by
 obtain⟨cs,h1,h2,h3⟩:=d.keys
 have:=LM.nodup_le 15 cs h2 h3
 have e:=congrArg List.length h1
 simp at e
 omega
def eT (s:List LM.St) (cs:List Nat):List LM.St:=cs.filterMap fun c=>match LM.look s c with
 | some f=>if 0<f then some (c,f) else none
 | none=>none
theorem vq {s:List LM.St}{cs:List Nat}{x:LM.St}:x∈eT s cs↔x.1∈cs/\LM.look s x.1=some x.2/\0<x.2:=by
 unfold eT
 rw[List.mem_filterMap]
 constructor
 ·rintro⟨c,hc,h⟩
  cases hl:LM.look s c with
  | none=>rw[hl] at h;cases h
  | some f =>
   rw[hl] at h
   by_cases hf:0<f
   ·simp only[hf,if_true] at h
    cases h
    exact⟨hc,hl,hf⟩
   ·simp only[hf,if_false] at h
    cases h
 ·rintro⟨h1,h2,h3⟩
  exact⟨x.1,h1,by rw[h2];simp[h3]⟩
theorem nF {s:List LM.St}{cs:List Nat} (h:cs.Pairwise (· < ·)):(eT s cs).Pairwise fun a b=>a.1<b.1:=by
 unfold eT
 rw[List.pairwise_filterMap]
 refine h.imp fun hab x hx y hy=>?_
 have aux:∀(c:Nat) (x:LM.St),(match LM.look s c with
   | some f=>if 0<f then some (c,f) else none
   | none=>none)=some x->x.1=c:=by
  intro c x h
  cases hl:LM.look s c with
  | none=>rw[hl] at h;cases h
  | some f =>
   rw[hl] at h
   by_cases hf:0<f
   ·simp only[hf,if_true] at h
    cases h
    rfl
   ·simp only[hf,if_false] at h
    cases h
 rw[aux _ _ hx,aux _ _ hy]
 exact hab
theorem rV {kvs:List (Key×V)}{s l:List LM.St}{cs cs':List Nat} (d:DictOk kvs (s.filter (fun y=>!LM.hit l y.1)++l)) (hk:kvs.map (·.1)=cs.map (fun (c:Nat)=>(Sum.inl (c:Int):Key))) (hn:cs.Nodup) (hp:cs'.Perm cs) (hs:cs'.Pairwise (·<=·)) (as:LM.apartP s) (al:LM.apartP l) :
  (LM.heldNow ((s.filter fun y=>!LM.hit l y.1).map LM.toS) (l.map LM.toS)).map LM.pr=eT (s.filter (fun y=>!LM.hit l y.1)++l) cs':=by
 have ap:=LM.apart_next as al
 have ak:LM.apartP (s.filter fun y=>!LM.hit l y.1):=by
  unfold LM.apartP at as ⊢
  exact as.filter _
 have hst:cs'.Pairwise (· < ·):=by
  have hn':cs'.Nodup:=hp.nodup_iff.mpr hn
  exact (hs.and hn').imp fun⟨a,b⟩=>Nat.lt_of_le_of_ne a b
 refine LM.held_pairs ak al (fun a ha b hb=>?_) (nF hst) fun x=>?_
 ·have:=(List.mem_filter.mp ha).2
  unfold LM.hit at this
  simp at this
  exact fun q=>this b.1 b.2 hb q.symm
 ·rw[vq,LM.look_mem ap]
  constructor
  ·rintro⟨_,h2,h3⟩
   exact⟨h3,h2⟩
  ·rintro⟨h1,h2⟩
   refine⟨hp.mem_iff.mpr ?_,h2,h1⟩
   have hl:=(LM.look_mem ap).mpr h2
   have hv:bN kvs (Sum.inl ((x.1:Nat):Int))=some (.int ((x.2:Nat):Int)):=by rw[d.val,hl];rfl
   have hm:=wf hv
   rw[hk,List.mem_map] at hm
   obtain⟨c,hc,e⟩:=hm
   injection e with e
   have:c=x.1:=by omega
   rw[← this]
   exact hc
structure Kl (K:W.Frag) (mg:Str->Option Value) (x qn:Str) (C:Addr) (st:Stmt) (ps fs:List Str) (f:Addr) (fd:FuncData):Prop where
 cl:Cls K C
 no:∀y∈fs,NoAttr K C y
 at_:mg x=some (.ref C)
 mkd:Mk K C f
 fn:Fun K "__init__" qn st f fd
 b:Binds K fd ps []
def two (x y:Str) (a b:V):List (Str×V):=dP y b (dP x a [])
theorem eX {x y:Str}{a b:V} (h:x≠y):(two x y a b).lookup x=some a:=by
 unfold two
 rw[cb,if_neg h,cb,if_pos rfl]
theorem qk {x y:Str}{a b:V}:(two x y a b).lookup y=some b:=by
 unfold two
 rw[cb,if_pos rfl]
def dr (C:Addr) (x y:Str):Sp:=fun vs H Q _=>∃(p dx:Addr) (a b:V),vs=[.ref p,a,b]/\H p=some (.ins C dx [])/\∀H',H' p=some (.ins C dx (two x y a b))->(∀c o,H c=some o->c≠p->H' c=some o)->Q .non H'
theorem made2 {C:Addr}{x y:Str}{H:Hp}{R:Hp->Prop}{E:XK}{a b:V}{p dx:Addr} (hp:H p=none) (hd:H dx=none) (h:∀H',Same H H'->H' p=some (.ins C dx (two x y a b))->R H') :
  dr C x y (.ref p::([a,b]++[])) (upd (upd H dx (.own p)) p (.ins C dx [])) (fun v H2=>v=.non/\R H2) E :=
 ⟨p,dx,a,b,rfl,ac,fun H' h1 h2=>⟨rfl,h H' (Same.made hp hd h2) h1⟩⟩
abbrev ly:Stmt:=mS (top 28) 0
abbrev n8:List Str:=["self","stops","ties"]
abbrev KMom (K:W.Frag) (mg:Str->Option Value) (C f:Addr) (fd:FuncData):Prop:=Kl K mg "Moment" "Moment.__init__" C ly n8 ["stops","ties"] f fd
abbrev ib:Stmt:=mS (top 78) 0
abbrev dY:List Str:=["self","refusal","moments"]
abbrev KRead (K:W.Frag) (mg:Str->Option Value) (C f:Addr) (fd:FuncData):Prop:=Kl K mg "Reading" "Reading.__init__" C ib dY ["refusal","moments"] f fd
section
variable {P:Program}{w:World}{K:W.Frag}{mg:Str->Option Value}{base:Heap}
theorem yc:FnScope n8 n8 (ad ly):=⟨rfl,rfl,rfl,by decide +kernel,rfl,by decide +kernel,by decide +kernel⟩
theorem qG:FnScope dY dY (ad ib):=⟨rfl,rfl,rfl,by decide +kernel,rfl,by decide +kernel,by decide +kernel⟩
theorem wL {C f:Addr}{fd:FuncData} (D:KMom K mg C f fd):FnOk P w K mg base CX0 1 f fd n8 (dr C "stops" "ties"):=by
 refine D.fn.ok yc (fun vs H Q E h=>?_) (fun cdv A outer s H vs Q E hr h=>?_)
 ·obtain⟨p,dx,a,b,rfl,_⟩:=h
  rfl
 ·obtain⟨p,dx,a,b,rfl,hp,k⟩:=h
  refine⟨_,ae (ig (pv 0) (pv 1) rfl) (ah (ig (pv 0) (pv 2) rfl)),?_⟩
  refine⟨_,rfl,_,rfl,p,C,dx,[],rfl,hp,D.cl,D.no _ (by simp),(by show 0<1000;decide),?_⟩
  refine⟨_,rfl,_,rfl,p,C,dx,_,rfl,ac,D.cl,D.no _ (by simp),(by show 1<1000;decide),?_⟩
  exact k _ ac fun c o e hc=>by rw[ai hc,ai hc];exact e
theorem nT {C f:Addr}{fd:FuncData} (D:KRead K mg C f fd):FnOk P w K mg base CX0 1 f fd dY (dr C "refusal" "moments"):=by
 refine D.fn.ok qG (fun vs H Q E h=>?_) (fun cdv A outer s H vs Q E hr h=>?_)
 ·obtain⟨p,dx,a,b,rfl,_⟩:=h
  rfl
 ·obtain⟨p,dx,a,b,rfl,hp,k⟩:=h
  refine⟨_,ae (ig (pv 0) (pv 1) rfl) (ah (ig (pv 0) (pv 2) rfl)),?_⟩
  refine⟨_,rfl,_,rfl,p,C,dx,[],rfl,hp,D.cl,D.no _ (by simp),(by show 0<1000;decide),?_⟩
  refine⟨_,rfl,_,rfl,p,C,dx,_,rfl,ac,D.cl,D.no _ (by simp),(by show 1<1000;decide),?_⟩
  exact k _ ac fun c o e hc=>by rw[ai hc,ai hc];exact e
theorem uZ {C f:Addr}{fd:FuncData} (D:KRead K mg C f fd):FnOkH P w K mg base 1 f fd dY (dr C "refusal" "moments"):=by
 refine D.fn.okH qG (fun vs H Q E h=>?_) (fun cdv A outer s H vs Q E hr h=>?_)
 ·obtain⟨p,dx,a,b,rfl,_⟩:=h
  rfl
 ·obtain⟨p,dx,a,b,rfl,hp,k⟩:=h
  refine⟨_,ae (ig (pv 0) (pv 1) rfl) (ah (ig (pv 0) (pv 2) rfl)),?_⟩
  refine⟨_,rfl,_,rfl,p,C,dx,[],rfl,hp,D.cl,D.no _ (by simp),(by show 0<1000;decide),?_⟩
  refine⟨_,rfl,_,rfl,p,C,dx,_,rfl,ac,D.cl,D.no _ (by simp),(by show 1<1000;decide),?_⟩
  exact k _ ac fun c o e hc=>by rw[ai hc,ai hc];exact e
end
def MomAt (C q:Addr) (H:Hp) (v:V) (x:List LuteHand.Held×List LuteHand.Held):Prop:=∃m dx sp tp,v=.ref m/\H m=some (.ins C dx (two "stops" "ties" (.ref sp) (.ref tp)))/\StopsAt H sp (x.2.map LM.pr)/\StopsAt H tp (LM.ties x.1 x.2)/\sp≠q/\tp≠q
def MomentsAt (C:Addr) (H:Hp) (q:Addr) (hs:List (List LuteHand.Held)):Prop:=∃vs,H q=some (.lst vs)/\Paired (MomAt C q H) vs (LM.withPrev [] hs)
theorem MomAt.same {C q:Addr}{H H':Hp}{v:V}{x:List LuteHand.Held×List LuteHand.Held} (k:Same H H') (h:MomAt C q H v x):MomAt C q H' v x:=by
 obtain⟨m,dx,sp,tp,e,h1,h2,h3,h4,h5⟩:=h
 exact⟨m,dx,sp,tp,e,k _ _ h1,h2.same k,h3.same k,h4,h5⟩
theorem MomentsAt.same {C q:Addr}{H H':Hp}{hs:List (List LuteHand.Held)} (k:Same H H') (h:MomentsAt C H q hs):MomentsAt C H' q hs:=by
 obtain⟨vs,h1,h2⟩:=h
 exact⟨vs,k _ _ h1,Paired.mapP h2 fun _ _ z=>z.same k⟩
def But2 (d q:Addr) (H H':Hp):Prop:=∀b o,H b=some o->b≠d->b≠q->H' b=some o
theorem StopsAt.but2 {d q p:Addr}{H H':Hp}{kvs:List (Key×V)}{ys:List V}{l:List LM.St} (hd:H d=some (.dK kvs)) (hq:H q=some (.lst ys)) (k:But2 d q H H') (hp:p≠q) (h:StopsAt H p l):StopsAt H' p l:=by
 obtain⟨vs,h1,h2⟩:=h
 exact⟨vs,k _ _ h1 (cT h1 hd (by intro z;cases z)) hp,aH (fun a xs e=>k _ _ e (cT e hd (by intro z;cases z)) (cT e hq (by intro z;cases z))) h2⟩
theorem MomAt.but2 {C d q:Addr}{H H':Hp}{kvs:List (Key×V)}{ys:List V}{v:V}{x:List LuteHand.Held×List LuteHand.Held} (hd:H d=some (.dK kvs)) (hq:H q=some (.lst ys)) (k:But2 d q H H') (h:MomAt C q H v x):MomAt C q H' v x:=by
 obtain⟨m,dx,sp,tp,e,h1,h2,h3,h4,h5⟩:=h
 exact⟨m,dx,sp,tp,e,k _ _ h1 (cT h1 hd (by intro z;cases z)) (cT h1 hq (by intro z;cases z)),h2.but2 hd hq k h4,h3.but2 hd hq k h5,h4,h5⟩
def fb (x:LM.St):PyData:=.tuple [.int (x.1:Nat),.int (x.2:Nat)]
theorem cP (x:LM.St):SeqAt.shaped (fb x)=true:=by
 unfold fb SeqAt.shaped
 simp[PyData.canLay0,PyData.canLayAll0,PyData.depth,PyData.depthAll]
theorem gk (x y:LM.St):PyData.eqv (fb x) (fb y)=decide (x=y):=by
 obtain⟨a,b⟩:=x
 obtain⟨c,d⟩:=y
 unfold fb
 simp only[PyData.eqv,PyData.eqvAll]
 rw[Bool.eq_iff_iff]
 simp
 omega
def kz (H:Hp) (a:Addr):PyData:=match H a with
 | some (.tup [.int c,.int f])=>.tuple [.int c,.int f]
 | _=>.none
theorem cz {H:Hp}{a:Addr}{x:LM.St} (h:H a=some (.tup [.int (x.1:Nat),.int (x.2:Nat)])):kz H a=fb x:=by
 unfold kz
 rw[h]
 rfl
theorem jn {K:W.Frag}{H:Hp}{a:Addr}{x:LM.St} (h:H a=some (.tup [.int (x.1:Nat),.int (x.2:Nat)])):Dp K H (.ref a) (fb x):=.tup (SqT.of h) (.cons (.int _) (.cons (.int _) .nil))
theorem fw {H:Hp}:∀{vs:List V}{l:List LM.St},Paired (StopAt H) vs l->∃as:List Addr,vs=as.map V.ref/\as.length=l.length/\∀(i:Nat) (x:LM.St),l[i]?=some x->∃a,as[i]?=some a/\H a=some (.tup [.int (x.1:Nat),.int (x.2:Nat)])
 | _,_,.nil=>⟨[],rfl,rfl,fun i x h=>by simp at h⟩
 | _,_,.cons ⟨a,e,ha⟩ t=>by
  obtain⟨as,h1,h2,h3⟩:=fw t
  refine⟨a::as,by rw[e,h1];rfl,by simp[h2],fun i x h=>?_⟩
  cases i with
  | zero =>
   simp at h
   subst h
   exact⟨a,rfl,ha⟩
  | succ i=>exact h3 i x (by simpa using h)
theorem dF {α:Type} [BEq α] [LawfulBEq α]:∀{l:List α}{a:α}{m:Nat},m<l.idxOf a->l[m]?≠some a
 | [],a,m,h=>by simp
 | b::l,a,m,h=>by
  rw[List.idxOf_cons] at h
  by_cases e:b=a
  ·subst e
   simp at h
  ·have hb:(b==a)=false:=by simp[e]
   rw[hb] at h
   cases m with
   | zero=>simpa using e
   | succ m =>
    have:m<l.idxOf a:=by simpa using h
    simpa using dF this
theorem gQ (c:Nat):∀l:List Nat,inV (.int (c:Nat)) (l.map fun (n:Nat)=>V.int (n:Nat))=decide (c∈l)
 | []=>rfl
 | a::l=>by
  have ih:=gQ c l
  unfold inV at ih ⊢
  rw[List.map_cons,List.any_cons,ih]
  show (((a:Nat):Int)==(c:Int) || _)=_
  rw[Bool.eq_iff_iff]
  simp only[Bool.or_eq_true,beq_iff_eq,decide_eq_true_eq,List.mem_cons]
  constructor
  ·rintro (q | q)
   ·exact .inl (by omega)
   ·exact .inr q
  ·rintro (q | q)
   ·exact .inl (by omega)
   ·exact .inr q
theorem _root_.L2.Room.units65 {k:Nat}{A:Around} (r:Room k A):A.units+65<cLine:=by have:=r.un;omega
theorem cy (l:List Nat):(l.map fun (n:Nat)=>V.int (n:Nat)).all flatV=true:=by
 rw[List.all_eq_true]
 intro v hv
 obtain⟨n,_,rfl⟩:=List.mem_map.mp hv
 rfl
abbrev iP:Stmt:=top 29
abbrev xK:List Str:=["stops_before","stops","struck","struck_courses","ties","place","stop","course","fret"]
def uk:Sp:=fun vs H Q _=>∃(sb sp st:Addr) (b h:List LuteHand.Held) (l:List LM.St),vs=[.ref sb,.ref sp,.ref st]/\StopsAt H sb (b.map LM.pr)/\StopsAt H sp (h.map LM.pr)/\StopsAt H st l/\LM.Follows b h/\h.length<=15/\l.length<=15/\(∀x∈h,x.on=!LM.hit l x.halt_.course) /\
 ∀H' q,Same H H'->H q=none->StopsAt H' q (LM.ties b h)->Q (.ref q) H'
section
variable {P:Program}{w:World}{K:W.Frag}{mg:Str->Option Value}{base:Heap}
theorem scTies:FnScope xK ["stops_before","stops","struck"] (ad iP):=⟨rfl,rfl,rfl,by decide +kernel,rfl,by decide +kernel,by decide +kernel⟩
theorem wI {f:Addr}{fd:FuncData} (D:Df K mg "find_ties" iP ["stops_before","stops","struck"] f fd) (gE:mg "enumerate" = none):FnOk P w K mg base CX0 2 f fd ["stops_before","stops","struck"] uk:=by
 refine D.fn.ok scTies (fun vs H Q E h=>?_) (fun cdv A outer s0 H vs Q E hr h=>?_)
 ·obtain⟨_,_,_,_,_,_,rfl,_⟩:=h
  rfl
 ·obtain⟨sb,sp,st,b,h,l,rfl,⟨bv,hb1,hb2⟩,⟨sv,hs1,hs2⟩,⟨lv,hl1,hl2⟩,fol,hh15,hl15,hon,k⟩:=h
  refine⟨_,ae (gp (i:=3) (g:=tG K 2 (eq (cH 7) (eq (cH 8) tH))) (own:=[("course",7),("fret",8)]) rfl scTies.nd rfl rfl (jh rfl rfl rfl rfl) (bo (pv 2)) (BlkOk.mk (N:=xK) (sc:=ad iP) rfl (by decide +kernel) (by decide +kernel) (by decide +kernel) (by decide +kernel))
    (fun _ _ _ _ _=>bV (n:=2) rfl (aO (aD (i:=7) scTies.nd rfl (Or.inl rfl)) (aO (aD (i:=8) scTies.nd rfl (Or.inl rfl)) bD))) (fun _ _ _ _ _=>cr) (fun _ _ _ _ _=>pv 7))
   (ae (aG (i:=4) scTies.nd rfl (Or.inl rfl) (bn ag))
   (ae (br PassesOwn.never rfl (jk rfl gE (aa (pv 1) ag)) (bV (n:=2) rfl (aO (aD (i:=5) scTies.nd rfl (Or.inl rfl)) (aO (aD (i:=6) scTies.nd rfl (Or.inl rfl)) bD)))
    (ah (aM (aq bS (aJ aX (pv 6) ao (fun _ _=>rfl)) (pv 3) rfl)
     (ah (cu (cS F.plainAttrs_list F.slot_list_append F.type_list_append bE (pv 4) (aa (bW (aa (cS F.plainAttrs_list F.slot_list_index F.type_list_index (sR hr.units65) (pv 0) (aa (pv 6) ag)) (aa (pv 5) ag))) ag)))) aw)))
   (ah (aA (pv 4))))),?_⟩
  refine⟨_,rfl,st,rfl,⟨_,SqL.of hl1⟩,fun L hL=>?_⟩
  refine dE (K:=K) (a:=st) (xs:=lv) (fun i H2=>H2 L=some (.lst ((l.take i).map fun x=>V.int ((x.1:Nat):Int)))/\Same H H2) ⟨ac,Same.new (Same.refl H) hL⟩ (fun i H2 _ h2=>SqL.of (h2.2 _ _ hl1)) ?_ ?_
  ·rintro i v H2 hv ⟨h1,h2⟩
   obtain⟨y,hy,a,rfl,ha⟩:=aI hl2 hv
   refine⟨a,_,rfl,SqT.of (h2 _ _ ha),rfl,_,_,rfl,_,_,rfl,rfl,rfl,mn ?_⟩
   refine⟨_,rfl,_,h1,?_,?_,fun c o e=>by rw[ai (af e hL)];exact h2 c o e⟩
   ·rw[List.length_map,List.length_take]
    exact Nat.lt_of_le_of_lt (Nat.min_le_right _ _) (Nat.lt_of_le_of_lt hl15 (by decide))
   ·rw[ac,aT hy,List.map_append]
    rfl
  ·rintro H2 ⟨h1,h2⟩
   rw[hl2.length,List.take_length] at h1
   have e1:(l.map fun x=>V.int ((x.1:Nat):Int))=(l.map (·.1)).map fun (n:Nat)=>V.int (n:Nat):=by
    rw[List.map_map]
    rfl
   rw[e1] at h1
   refine⟨Nat.zero_le _,fun q hq=>?_⟩
   have hqL:L≠q:=af h1 hq
   have s3:Same H (upd H2 q (.lst [])):=h2.new hq
   have hqn:H q=none:=h2.free hq
   obtain⟨bas,eb,lb,hba⟩:=fw hb2
   subst eb
   refine⟨_,rfl,sp,_,rfl,SqL.of (s3 _ _ hs1),g6 (K:=K) (a:=sp) (xs:=sv) (fun i σ H'=>∃v5 v6 vs,σ=[some (.ref sb),some (.ref sp),some (.ref st),some (.ref L),some (.ref q),v5,v6,none,none]/\H' q=some (.lst vs)/\Paired (StopAt H') vs (LM.ties b (h.take i))/\vs.length<=i/\H' L=some (.lst ((l.map (·.1)).map fun (n:Nat)=>V.int (n:Nat)))/\Same H H')
    ⟨none,none,[],rfl,ac,.nil,Nat.le_refl _,by rw[ai hqL];exact h1,s3⟩ (fun i σ H' ⟨_,_,_,_,_,_,_,_,h9⟩=>SqL.of (h9 _ _ hs1)) ?_ ?_⟩
   ·rintro i v σ H' t hv ⟨v5,v6,vs,rfl,g1,g2,g3,g4,g5⟩ ht
    obtain⟨y,hy,a,rfl,ha⟩:=aI hs2 hv
    rw[List.getElem?_map] at hy
    obtain⟨x,hx,ex⟩:=Option.map_eq_some_iff.mp hy
    subst ex
    have hxm:=List.mem_of_getElem? hx
    have hi:=(List.getElem?_eq_some_iff.mp hx).1
    have s4:Same H' (upd H' t (.tup [.int (i:Nat),.ref a])):=Same.new (Same.refl H') ht
    have ha':=s4 _ _ (g5 _ _ ha)
    refine⟨t,_,rfl,SqT.of ac,rfl,_,_,rfl,_,_,rfl,rfl,?_⟩
    refine⟨_,rfl,a,_,_,_,rfl,rfl,SqT.of ha',az (j:=0) rfl,_,rfl,L,_,rfl,.inl (SqL.of (s4 _ _ g4)),rfl,cy _,_,rfl,?_⟩
    rw[if_pos rfl,gQ]
    have ehit:decide ((LM.pr x).1∈l.map (·.1))=LM.hit l x.halt_.course:=by
     unfold LM.hit
     rw[Bool.eq_iff_iff,decide_eq_true_eq,List.any_eq_true,List.mem_map]
     constructor
     ·rintro⟨y,hy,e⟩
      exact⟨y,hy,by rw[e];simp[LM.pr]⟩
     ·rintro⟨y,hy,e⟩
      exact⟨y,hy,by simpa[LM.pr] using e⟩
    rw[ehit,← hon x hxm]
    have qn:q≠t:=af g1 ht
    refine ite2 (fun hne=>?_) fun hne=>?_
    ·have hm:=fol x hxm hne
     have hidx:=LM.idxOf_at hm
     obtain⟨aj,haj,hajt⟩:=hba _ _ hidx
     refine⟨_,rfl,.inl ⟨rfl,_,SqL.of (s4 _ _ g1)⟩,_,rfl,.inl ⟨rfl,_,SqL.of (s4 _ _ (g5 _ _ hb1))⟩,_,rfl,?_⟩
     refine⟨sb,bas,kz (upd H' t (.tup [.int (i:Nat),.ref a])),_,fb (LM.pr x),(b.map LM.pr).idxOf (LM.pr x),aj,rfl,rfl,SqL.of (s4 _ _ (g5 _ _ hb1)),?_,jn ha',cP _,haj,?_,?_,?_⟩
     ·intro c hc
      obtain⟨j,hj⟩:=List.mem_iff_getElem?.mp hc
      have hjl:=(List.getElem?_eq_some_iff.mp hj).1
      rw[lb] at hjl
      obtain⟨c',hc',hct⟩:=hba j _ (List.getElem?_eq_getElem hjl)
      rw[hj] at hc'
      cases hc'
      have:=s4 _ _ (g5 _ _ hct)
      rw[cz this]
      exact⟨jn this,cP _⟩
     ·rw[cz (s4 _ _ (g5 _ _ hajt)),gk]
      simp
     ·intro m c hm' hc
      have hml:=(List.getElem?_eq_some_iff.mp hc).1
      rw[lb] at hml
      obtain⟨c',hc',hct⟩:=hba m _ (List.getElem?_eq_getElem hml)
      rw[hc] at hc'
      cases hc'
      rw[cz (s4 _ _ (g5 _ _ hct)),gk,decide_eq_false_iff_not]
      intro e
      exact dF hm' (by rw[List.getElem?_eq_getElem hml,e])
     ·refine⟨_,rfl,(by show 2<=sizeLine;decide),fun t2 ht2=>?_⟩
      have g1':=s4 _ _ g1
      have q2:q≠t2:=af g1' ht2
      refine⟨q,_,_,rfl,rfl,by rw[ai q2];exact g1',?_,?_⟩
      ·exact Nat.lt_of_le_of_lt g3 (Nat.lt_of_lt_of_le hi (Nat.le_trans hh15 (by decide)))
      ·have p3:upd (upd H' t (.tup [.int (i:Nat),.ref a])) t2 (.tup [.int (((b.map LM.pr).idxOf (LM.pr x):Nat):Int),.int (i:Nat)]) q=some (.lst vs):=by rw[ai q2];exact g1'
       have qa:=aH (bx (zs:=vs++[.ref t2]) p3) (aH (bA ht2) (aH (bA ht) g2))
       refine⟨_,_,vs++[.ref t2],rfl,ac,?_,by simp;omega,?_,?_⟩
       ·rw[LM.ties_snoc hx,if_pos hne]
        refine aV qa ⟨t2,rfl,?_⟩
        rw[ai (Ne.symm q2),ac]
       ·rw[ai hqL,ai (af (s4 _ _ g4) ht2)]
        exact s4 _ _ g4
       ·intro c o e
        rw[ai (af e hqn)]
        exact ((g5.trans s4).new ht2) c o e
    ·refine⟨_,_,vs,rfl,s4 _ _ g1,?_,by omega,s4 _ _ g4,g5.trans s4⟩
     rw[LM.ties_snoc hx,if_neg hne,List.append_nil]
     exact aH (bA ht) g2
   ·rintro σ H' ⟨v5,v6,vs,rfl,g1,g2,g3,g4,g5⟩
    refine⟨_,rfl,k H' q g5 hqn ⟨vs,g1,?_⟩⟩
    have:h.take sv.length=h:=by rw[hs2.length,List.length_map];exact List.take_length
    rw[this] at g2
    exact g2
end
theorem tS {ns':List Int}{cs:List Nat} (h:ns'.Perm (cs.map fun (c:Nat)=>(c:Int))) (hs:ns'.Pairwise (·<=·)):∃cs':List Nat,ns'=cs'.map (fun (c:Nat)=>(c:Int))/\cs'.Perm cs/\cs'.Pairwise (·<=·):=by
 have hall:∀x∈ns',0<=x:=fun x hx=>by
  have:=h.mem_iff.mp hx
  obtain⟨c,_,rfl⟩:=List.mem_map.mp this
  omega
 have e:ns'=(ns'.map Int.toNat).map fun (c:Nat)=>(c:Int):=by
  rw[List.map_map]
  conv=>lhs;rw[← List.map_id ns']
  refine List.map_congr_left fun x hx=>?_
  have:=hall x hx
  show x=((x.toNat:Nat):Int)
  omega
 refine⟨ns'.map Int.toNat,e,?_,?_⟩
 ·have:=h.map Int.toNat
  rw[List.map_map] at this
  have e2:cs.map (Int.toNat ∘ fun (c:Nat)=>(c:Int))=cs:=by
   conv=>rhs;rw[← List.map_id cs]
   refine List.map_congr_left fun x _=>?_
   show ((x:Nat):Int).toNat=x
   omega
  rw[e2] at this
  exact this
 ·rw[List.pairwise_map]
  refine hs.imp ?_
  intro a b hab
  omega
theorem uu {s:List LM.St}{cs:List Nat}{c f:Nat} (h:LM.look s c=some f) (hf:0<f):eT s (cs++[c])=eT s cs++[(c,f)]:=by
 unfold eT
 rw[List.filterMap_append]
 congr 1
 simp[h,hf]
theorem uv {s:List LM.St}{cs:List Nat}{c f:Nat} (h:LM.look s c=some f) (hf:¬0<f):eT s (cs++[c])=eT s cs:=by
 unfold eT
 rw[List.filterMap_append]
 have:∀x:List LM.St,x=[]->∀y:List LM.St,y++x=y:=fun x hx y=>by rw[hx,List.append_nil]
 refine this _ ?_ _
 simp[h,hf]
theorem eW (h:List LuteHand.Held):∀(hs:List (List LuteHand.Held)) (p:List LuteHand.Held),LM.withPrev p (hs++[h])=LM.withPrev p hs++[(hs.getLastD p,h)]
 | [],p=>rfl
 | a::hs,p=>by
  have ih:=eW h hs a
  show (p,a)::LM.withPrev a (hs++[h])=(p,a)::(LM.withPrev a hs++[((a::hs).getLastD p,h)])
  rw[ih]
  congr 3
  cases hs <;> simp[List.getLastD]
theorem yo {s l:List LM.St}{x:LuteHand.Held} (h:x∈LM.heldNow ((s.filter fun y=>!LM.hit l y.1).map LM.toS) (l.map LM.toS)):x.on=!LM.hit l x.halt_.course:=by
 obtain⟨_,h2⟩:=LM.mem_heldNow.mp h
 rcases h2 with ⟨e,q⟩ | ⟨e,q⟩
 ·have:=(List.mem_filter.mp (LM.mem_toS.mp q)).2
  rw[e]
  simpa using this.symm
 ·rw[e]
  have:LM.hit l x.halt_.course=true:=by
   unfold LM.hit
   rw[List.any_eq_true]
   exact⟨_,LM.mem_toS.mp q,by simp⟩
  rw[this]
  rfl
theorem tV {l:List LM.St} (h:LM.apartP l) (hc:∀x∈l,x.1<15):l.length<=15:=by
 have hn:(l.map (·.1)).Nodup:=by
  unfold List.Nodup
  rw[List.pairwise_map]
  exact h
 have:=LM.nodup_le 15 (l.map (·.1)) hn fun x hx=>by
  obtain⟨y,hy,rfl⟩:=List.mem_map.mp hx
  exact hc y hy
 simpa using this
abbrev bq:Stmt:=top 30
abbrev im:List Str:=["lines","ring","sounding","stops_before","moments","line","course","fret","stops"]
def jy (C:Addr):Sp:=fun vs H Q _=>∃(la:Addr) (ring:Nat) (ls:List LM.Ln),vs=[.ref la,.int (ring:Nat)]/\rF H la ls/\(∀a∈ls,LM.okLine a)/\ls.length<=512/\∀H' q,Same H H'->H q=none->MomentsAt C H' q (LM.heldS ring [] ls)->Q (.ref q) H'
section
variable {P:Program}{w:World}{K:W.Frag}{mg:Str->Option Value}{base:Heap}
theorem scHeldMoms:FnScope im ["lines","ring"] (ad bq):=⟨rfl,rfl,rfl,by decide +kernel,rfl,by decide +kernel,by decide +kernel⟩
theorem nU {f C fI fT:Addr}{fd fdI fdT:FuncData} (D:Df K mg "held_moments" bq ["lines","ring"] f fd) (KM:KMom K mg C fI fdI) (DT:Df K mg "find_ties" iP ["stops_before","stops","struck"] fT fdT) (GT:FnOk P w K mg base CX0 2 fT fdT ["stops_before","stops","struck"] uk)
  (gB:GV mg "UNTIL_BAR" (.int 2)) (gM:GV mg "UNTIL_MOMENT_ENDS" (.int 0)) (gS:mg "sorted" = none):FnOk P w K mg base CX0 3 f fd ["lines","ring"] (jy C):=by
 have GI:FnOk P w K mg base CX0 1 fI fdI n8 (dr C "stops" "ties"):=wL KM
 refine D.fn.ok scHeldMoms (fun vs H Q E h=>?_) (fun cdv A outer s0 H vs Q E hr h=>?_)
 ·obtain⟨la,ring,ls,rfl,_⟩:=h
  rfl
 ·obtain⟨la,ring,ls,rfl,hL,hok,hlen,k⟩:=h
  have hu:=vB hr
  have rest:∃u,PSs (cxOf CX0 P w K mg base im "held_moments" (ad bq) f cdv A outer s0 H E).nox ((xu ((au bq).getD 3 (.Pass ⟨0,0,0,0⟩))).drop 2) u /\
    ∀(D:Ends) (d q a p sb:Addr) (n:Nat) (v6 v7 v8:Option V) (kvs:List (Key×V)) (s l:List LM.St) (b:List LuteHand.Held) (vs:List V) (H2:Hp),H2 d=some (.dK kvs)->DictOk kvs s->LM.apartP s->H2 q=some (.lst vs)->vs.length<sizeLine->H2 a=some (.tup [.int (n:Nat),.ref p])->StopsAt H2 p l->p≠q->(∀x∈l,LM.okStop x)->LM.apartP l ->
     StopsAt H2 sb (b.map LM.pr)->sb≠q->LM.Follows b (LM.heldNow ((s.filter fun y=>!LM.hit l y.1).map LM.toS) (l.map LM.toS))->LM.okHeld (LM.heldNow ((s.filter fun y=>!LM.hit l y.1).map LM.toS) (l.map LM.toS)) ->
     (∀(H3:Hp) (kvs':List (Key×V)) (r m:Addr) (v6 v7:Option V),H3 d=some (.dK kvs')->DictOk kvs' (s.filter (fun y=>!LM.hit l y.1)++l)->H3 q=some (.lst (vs++[.ref m]))->MomAt C q H3 (.ref m) (b,LM.heldNow ((s.filter fun y=>!LM.hit l y.1).map LM.toS) (l.map LM.toS))->r≠q->StopsAt H3 r ((LM.heldNow ((s.filter fun y=>!LM.hit l y.1).map LM.toS) (l.map LM.toS)).map LM.pr)->But2 d q H2 H3 ->
      D.nx [some (.ref la),some (.int (ring:Nat)),some (.ref d),some (.ref r),some (.ref q),some (.ref a),v6,v7,some (.ref r)] H3) ->
     u D [some (.ref la),some (.int (ring:Nat)),some (.ref d),some (.ref sb),some (.ref q),some (.ref a),v6,v7,v8] H2:=by
   refine⟨_,ae (br PassesOwn.never rfl (bo (aJ aX (pv 5) ao (fun _ _=>rfl))) (bV (n:=2) rfl (aO (aD (i:=6) scHeldMoms.nd rfl (Or.inl rfl)) (aO (aD (i:=7) scHeldMoms.nd rfl (Or.inl rfl)) bD))) (ah (qK hu (pv 2) (pv 6) (pv 7) rfl)))
    (ae (gp (i:=8) (own:=[("course",6)]) rfl scHeldMoms.nd rfl rfl (jh rfl rfl rfl rfl) (bo (aR (p9 rfl) (by rfl) gS boot_sorted (aa (pv 2) ag)))
     (BlkOk.mk (N:=im) (sc:=ad bq) rfl (by decide +kernel) (by decide +kernel) (by decide +kernel) (by decide +kernel)) (fun _ _ _ _ _=>aD (i:=6) scHeldMoms.nd rfl (Or.inl rfl))
     (fun _ _ _ _ _=>mF (aq dg (qO hu (pv 2) (pv 6) (fun _ _=>rfl)) ao (nomark _)))
     (fun _ _ _ _ _=>bW (aa (pv 6) (aa (qO hu (pv 2) (pv 6) (fun _ _=>rfl)) ag))))
    (ae (cu (cS F.plainAttrs_list F.slot_list_append F.type_list_append bE (pv 4) (aa (gq KM.mkd GI hr rfl KM.at_ KM.b .nil pass0 (aa (pv 8) (aa (aE GT hr rfl DT.at_ DT.fn.kp DT.b .nil pass0 (aa (pv 3) (aa (pv 8) (aa (aJ aX (pv 5) ao (fun _ _=>rfl)) ag)))) ag))) ag)))
    (ah (aG (i:=3) scHeldMoms.nd rfl (Or.inl rfl) (pv 8))))),?_⟩
   intro D d q a p sb n v6 v7 v8 kvs s l b vs H2 hd dk as hq hvl ha hl hpq ok al hsb hsbq fol okh cont
   have hl0:=hl
   obtain⟨ws,hp,hws⟩:=hl
   refine⟨_,rfl,a,_,_,_,rfl,rfl,SqT.of ha,az (j:=1) rfl,p,rfl,⟨_,SqL.of hp⟩,cg (K:=K) (a:=p) (xs:=ws) (fun j σ H'=>∃(v6 v7:Option V) (kvs2:List (Key×V)),σ=[some (.ref la),some (.int (ring:Nat)),some (.ref d),some (.ref sb),some (.ref q),some (.ref a),v6,v7,v8]/\H' d=some (.dK kvs2)/\DictOk kvs2 ((l.take j).foldl LM.putS s)/\But d H2 H')
    ⟨v6,v7,kvs,rfl,hd,dk,fun b o e _=>e⟩ (fun i σ H' _ ⟨_,_,_,_,h1,h2,h3⟩=>SqL.of (h3 _ _ hp (cT hp hd (by intro z;cases z)))) ?_ ?_⟩
   ·rintro j x σ H' hx ⟨v6,v7,kvs2,rfl,h1,h2,h3⟩
    obtain⟨y,hy,sa,rfl,hsa⟩:=aI hws hx
    have hsa':=h3 _ _ hsa (cT hsa hd (by intro z;cases z))
    refine⟨sa,_,rfl,SqT.of hsa',rfl,_,_,rfl,_,_,rfl,rfl,?_⟩
    have hlt:kvs2.length<sizeLine:=Nat.lt_of_le_of_lt h2.len (by decide)
    refine⟨_,rfl,_,rfl,_,rfl,d,_,rfl,DPut.k (k:=Sum.inl ((y.1:Nat):Int)) h1 hlt,?_⟩
    refine⟨_,_,_,rfl,ac,?_,fun b o e hne=>by rw[ai hne];exact h3 b o e hne⟩
    rw[aT hy,List.foldl_append]
    have:=ok y (List.mem_of_getElem? hy)
    exact h2.put (by have:=this.2.1;omega)
   ·rintro σ H' ⟨v6,v7,kvs2,rfl,h1,h2,h3⟩
    have e0:l.take ws.length=l:=by rw[hws.length];exact List.take_length
    rw[e0,LM.fold_put al] at h2
    have hdq:q≠d:=cT hq hd (by intro z;cases z)
    have hq':=h3 _ _ hq hdq
    have hB:But2 d q H2 H':=fun c o e hc _=>h3 c o e hc
    obtain⟨cs,hk,hnd,hlt⟩:=h2.keys
    have hlen15:=LM.nodup_le 15 cs hnd hlt
    refine⟨_,rfl,d,kvs2,cs.map (fun (c:Nat)=>(c:Int)),rfl,h1,by rw[hk,List.map_map];rfl,by rw[List.length_map];omega,fun ns' sp hperm hsort hsp=>?_⟩
    obtain⟨cs',rfl,hp',hs'⟩:=tS hperm hsort
    have hM:=rV h2 hk hnd hp' hs' as al
    refine⟨sp,rfl,⟨_,SqL.of ac⟩,fun L hL=>?_⟩
    have s1:Same H' (upd H' sp (.lst ((cs'.map fun (c:Nat)=>(c:Int)).map V.int))):=Same.new (Same.refl H') hsp
    have hsp':upd H' sp (.lst ((cs'.map fun (c:Nat)=>(c:Int)).map V.int)) sp=some (.lst ((cs'.map fun (c:Nat)=>(c:Int)).map V.int)):=ac
    generalize upd H' sp (.lst ((cs'.map fun (c:Nat)=>(c:Int)).map V.int))=H4 at s1 hL hsp'
    have hcl:cs'.length<=15:=by rw[hp'.length_eq];exact hlen15
    refine dE (K:=K) (a:=sp) (xs:=(cs'.map fun (c:Nat)=>(c:Int)).map V.int) (fun j H5=>∃ys,H5 L=some (.lst ys)/\Paired (StopAt H5) ys (eT (s.filter (fun y=>!LM.hit l y.1)++l) (cs'.take j))/\ys.length<=j/\Same H4 H5)
     ⟨[],ac,.nil,Nat.le_refl _,Same.new (Same.refl H4) hL⟩ (fun j H5 _ ⟨_,_,_,_,h5⟩=>SqL.of (h5 _ _ hsp')) ?_ ?_
    ·rintro j x H5 hx ⟨ys,g1,g2,g3,g4⟩
     rw[List.getElem?_map,List.getElem?_map] at hx
     cases hc:cs'[j]? with
     | none=>rw[hc] at hx;cases hx
     | some c =>
      rw[hc] at hx
      cases hx
      have hd5:=g4 _ _ (s1 _ _ h1)
      have hcm:c∈cs:=hp'.mem_iff.mp (List.mem_of_getElem? hc)
      have hval:∃fr,LM.look (s.filter (fun y=>!LM.hit l y.1)++l) c=some fr:=by
       have hv:=h2.val c
       cases hlk:LM.look (s.filter (fun y=>!LM.hit l y.1)++l) c with
       | some fr=>exact⟨fr,rfl⟩
       | none =>
        rw[hlk] at hv
        exfalso
        have:=na hv
        rw[hk] at this
        exact this (List.mem_map.mpr ⟨c,hcm,rfl⟩)
      obtain⟨fr,hfr⟩:=hval
      have hg:DGet H5 d (.int (c:Nat)) (some (.int (fr:Nat))):=by
       have z:=DGet.k (k:=Sum.inl ((c:Nat):Int)) hd5
       rw[h2.val c,hfr] at z
       exact z
      have hj:=(List.getElem?_eq_some_iff.mp hc).1
      refine⟨rfl,?_⟩
      refine⟨_,rfl,_,rfl,d,_,rfl,hg,_,_,rfl,rfl,_,rfl,ite2 (fun hpos=>?_) fun hpos=>?_⟩
      ·have hpos':0<fr:=by
        have:(0:Int)<(fr:Nat):=of_decide_eq_true hpos
        omega
       refine⟨_,rfl,_,rfl,_,rfl,d,_,rfl,hg,(by show 2<=sizeLine;decide),fun t ht=>?_⟩
       have hLt:L≠t:=af g1 ht
       refine⟨ys,by rw[ai hLt];exact g1,?_,ys++[.ref t],ac,?_,by simp;omega,?_⟩
       ·exact Nat.lt_of_le_of_lt g3 (Nat.lt_of_lt_of_le hj (Nat.le_trans hcl (by decide)))
       ·have e1:eT (s.filter (fun y=>!LM.hit l y.1)++l) (cs'.take (j+1))=eT (s.filter (fun y=>!LM.hit l y.1)++l) (cs'.take j)++[(c,fr)]:=by
         rw[aT hc,uu hfr hpos']
        rw[e1]
        have g1':upd H5 t (.tup [.int (c:Nat),.int (fr:Nat)]) L=some (.lst ys):=by rw[ai hLt];exact g1
        refine aV (aH (bx g1') (aH (bA ht) g2)) ⟨t,rfl,?_⟩
        rw[ai (Ne.symm hLt),ac]
       ·intro b o e
        rw[ai (af e hL)]
        exact (g4.new ht) b o e
      ·have hpos':¬0<fr:=fun z=>hpos (decide_eq_true (by omega))
       refine⟨ys,g1,?_,by omega,g4⟩
       have e1:eT (s.filter (fun y=>!LM.hit l y.1)++l) (cs'.take (j+1))=eT (s.filter (fun y=>!LM.hit l y.1)++l) (cs'.take j):=by
        rw[aT hc,uv hfr hpos']
       rw[e1]
       exact g2
    ·rintro H5 ⟨ys,g1,g2,g3,g4⟩
     have e2:cs'.take ((cs'.map fun (c:Nat)=>(c:Int)).map V.int).length=cs':=by
      rw[List.length_map,List.length_map]
      exact List.take_length
     rw[e2,← hM] at g2
     have s5:Same H' H5:=s1.trans g4
     have hq5:=s5 _ _ hq'
     have hLn:H' L=none:=s1.free hL
     have hLd:L≠d:=fun z=>by rw[z,h1] at hLn;cases hLn
     have hLq:L≠q:=fun z=>by rw[z,hq'] at hLn;cases hLn
     have stL:StopsAt H5 L ((LM.heldNow ((s.filter fun y=>!LM.hit l y.1).map LM.toS) (l.map LM.toS)).map LM.pr):=⟨ys,g1,g2⟩
     have hsb5:StopsAt H5 sb (b.map LM.pr):=(hsb.but2 hd hq hB hsbq).same s5
     have hl5:StopsAt H5 p l:=(hl0.but2 hd hq hB hpq).same s5
     have ha5:H5 a=some (.tup [.int (n:Nat),.ref p]):=s5 _ _ (h3 _ _ ha (cT ha hd (by intro z;cases z)))
     refine⟨_,rfl,.inl ⟨rfl,_,SqL.of hq5⟩,_,rfl,_,rfl,_,rfl,_,rfl,a,_,_,_,rfl,rfl,SqT.of ha5,az (j:=1) rfl,?_⟩
     have hlen6:=okh.len
     refine⟨sb,L,p,b,_,l,rfl,hsb5,stL,hl5,fol,by omega,?_,fun x hx=>yo hx,fun H6 tq s6 htq hties=>?_⟩
     ·exact tV al fun x hx=>by have:=(ok x hx).2.1;omega
     intro m dx hm hdx _
     refine made2 hm hdx fun H7 s7 hm7=>?_
     have hq7:=s7 _ _ (s6 _ _ hq5)
     have htqq:tq≠q:=fun z=>by rw[z,hq5] at htq;cases htq
     have hmq:m≠q:=cT hm7 hq7 (by intro z;cases z)
     refine⟨q,vs,_,rfl,rfl,hq7,hvl,?_⟩
     have hB7:But2 d q H2 (upd H7 q (.lst (vs++[.ref m]))):=fun c o e hcd hcq=>by
      rw[ai hcq]
      exact s7 _ _ (s6 _ _ (s5 _ _ (h3 c o e hcd)))
     have hL7:=stL.same (s6.trans s7)
     have ht7:=hties.same s7
     have w7:∀(z:Addr) (L:List LM.St),StopsAt H7 z L->z≠q->StopsAt (upd H7 q (.lst (vs++[.ref m]))) z L:=fun z L ⟨xs,z1,z2⟩ zq=>⟨xs,by rw[ai zq];exact z1,aH (bx hq7) z2⟩
     refine⟨_,rfl,?_⟩
     exact cont _ kvs2 L m _ _ (by rw[ai (Ne.symm hdq)];exact s7 _ _ (s6 _ _ (s5 _ _ h1))) h2 ac ⟨m,dx,L,tq,rfl,by rw[ai hmq];exact hm7,w7 _ _ hL7 hLq,w7 _ _ ht7 htqq,hLq,htqq⟩ hLq (w7 _ _ hL7 hLq) hB7
  obtain⟨u,hu',ru⟩:=rest
  refine⟨_,ae (aG (i:=2) scHeldMoms.nd rfl (Or.inr rfl) gu)
   (ae (aG (i:=3) scHeldMoms.nd rfl (Or.inl rfl) (bn ag))
   (ae (aG (i:=4) scHeldMoms.nd rfl (Or.inl rfl) (bn ag))
   (ae (br PassesOwn.never rfl (bo (pv 0)) (aD (i:=5) scHeldMoms.nd rfl (Or.inl rfl))
    (ae (aM (aq uT (pv 5) cE (nomark _)) (ae (aM (aq bz (pv 1) (bc gB rfl) (nomark _)) (ah (aG (i:=2) scHeldMoms.nd rfl (Or.inr rfl) gu)) aw) (ah iU)) aw)
    (ae (aM (aq bz (pv 1) (bc gM rfl) (nomark _)) (ah (aG (i:=2) scHeldMoms.nd rfl (Or.inr rfl) gu)) aw) hu')))
   (ah (aA (pv 4)))))),?_⟩
  intro d0 hd0
  refine⟨Nat.zero_le _,fun sb0 hsb0=>?_⟩
  refine⟨Nat.zero_le _,fun q hq=>?_⟩
  obtain⟨lvs,hla,hlv⟩:=hL
  have s1:Same H (upd H d0 (.dK [])):=Same.new (Same.refl H) hd0
  have s1b:Same H (upd (upd H d0 (.dK [])) sb0 (.lst [])):=s1.new hsb0
  have s2:Same H (upd (upd (upd H d0 (.dK [])) sb0 (.lst [])) q (.lst [])):=s1b.new hq
  have hqn:H q=none:=s1b.free hq
  have hlaq:la≠q:=fun z=>by rw[z,hqn] at hla;cases hla
  have hsbq0:sb0≠q:=af ac hq
  have hdsb:d0≠sb0:=af ac hsb0
  have hdq0:d0≠q:=af (by rw[ai hdsb];exact ac) hq
  refine⟨_,rfl,la,rfl,⟨_,SqL.of (s2 _ _ hla)⟩,cg (K:=K) (a:=la) (xs:=lvs) (fun i σ H'=>∃(d sb:Addr) (v5 v6 v7 v8:Option V) (kvs:List (Key×V)) (s:List LM.St) (vs:List V) (hs:List (List LuteHand.Held)),σ=[some (.ref la),some (.int (ring:Nat)),some (.ref d),some (.ref sb),some (.ref q),v5,v6,v7,v8]/\H' d=some (.dK kvs)/\H d=none/\(ring≠0->DictOk kvs s)/\(ring=0->s=[])/\LM.apartP s/\H' q=some (.lst vs)/\Paired (MomAt C q H') vs (LM.withPrev [] hs)/\Same H H'/\hs.length<=i/\LM.heldS ring [] ls=hs++LM.heldS ring s (ls.drop i)/\StopsAt H' sb ((hs.getLastD []).map LM.pr)/\sb≠q/\(∀x∈s,LM.okStop x)/\LM.Sounds (hs.getLastD []) s)
   ⟨d0,sb0,none,none,none,none,[],[],[],[],rfl,by rw[ai hdq0,ai hdsb];exact ac,hd0,fun _=>DictOk.nil,fun _=>rfl,.nil,ac,.nil,s2,Nat.le_refl _,rfl,⟨[],by rw[ai hsbq0];exact ac,.nil⟩,hsbq0,(by simp),(by intro x hx;simp at hx)⟩ (fun i σ H' _ ⟨_,_,_,_,_,_,_,_,_,_,_,_,_,_,_,_,_,_,h9,_⟩=>SqL.of (h9 _ _ hla)) ?_ ?_⟩
  ·rintro i x σ H' hx ⟨d,sb,v5,v6,v7,v8,kvs,s,vs,hs,rfl,h1,h2,h3,h4,h5,h6,h7,h8,h9,h10,h11,h12,h13,h14⟩
   obtain⟨ln,hln,hat⟩:=aI hlv hx
   have hi:=(List.getElem?_eq_some_iff.mp hln).1
   have hdrop:ls.drop i=ln::ls.drop (i+1):=by
    rw[List.drop_eq_getElem_cons hi]
    congr 1
    exact (List.getElem?_eq_some_iff.mp hln).2
   rw[hdrop] at h10
   have hwl:(LM.withPrev [] hs).length=hs.length:=by
    have:∀(hs:List (List LuteHand.Held)) (p:List LuteHand.Held),(LM.withPrev p hs).length=hs.length:=by
     intro hs
     induction hs with
     | nil=>intro p;rfl
     | cons a hs ih=>intro p;simp[LM.withPrev,ih]
    exact this hs []
   have hvl:vs.length<sizeLine:=by
    rw[h7.length,hwl]
    exact Nat.lt_of_le_of_lt h9 (Nat.lt_of_lt_of_le hi (Nat.le_trans hlen (by decide)))
   cases ln with
   | none =>
    cases (hat:x=V.non)
    rw[LM.heldS_bar] at h10
    refine⟨_,rfl,rfl,_,rfl,gH rfl ?_⟩
    refine⟨_,rfl,rfl,_,rfl,ite2 (fun hb=>?_) fun hb=>?_⟩
    ·have e2:ring=2:=by
      have:V.int (ring:Nat)=V.int 2:=of_decide_eq_true hb
      injection this with this
      omega
     intro d2 hd2
     rw[if_pos e2] at h10
     have hq2:q≠d2:=af h6 hd2
     have sd:=Same.new (Same.refl H') (o:=.dK []) hd2
     exact⟨d2,sb,_,_,_,_,[],[],vs,hs,rfl,ac,h8.free hd2,fun _=>DictOk.nil,fun _=>rfl,.nil,by rw[ai hq2];exact h6,Paired.mapP h7 fun _ _ z=>z.same sd,h8.new hd2,by omega,h10,h11.same sd,h12,by simp,by intro x hx;simp at hx⟩
    ·have e2:¬ring=2:=fun z=>hb (decide_eq_true (by rw[z];rfl))
     rw[if_neg e2] at h10
     exact⟨d,sb,_,_,_,_,kvs,s,vs,hs,rfl,h1,h2,h3,h4,h5,h6,h7,h8,by omega,h10,h11,h12,h13,h14⟩
   | some m =>
    obtain⟨n,l⟩:=m
    obtain⟨a,p,rfl,ha,hst,hb⟩:=hat
    have okl:=hok _ (List.mem_of_getElem? hln) n l rfl
    have al:=LM.rise_apartP okl.2.2.2
    rw[LM.heldS_moment] at h10
    have hpq:p≠q:=fun z=>by
     obtain⟨_,e,_⟩:=hst
     rw[z,hqn] at e
     cases e
    have oall:∀x∈s.filter (fun y=>!LM.hit l y.1)++l,LM.okStop x:=fun x hx=>by
     rcases List.mem_append.mp hx with q | q
     ·exact h13 x (List.mem_filter.mp q).1
     ·exact okl.2.2.1 x q
    have okh:=LM.heldNow_ok (LM.apart_filter (l:=l) h5) al LM.kept_ne oall
    have fol:LM.Follows (hs.getLastD []) (LM.heldNow ((s.filter fun y=>!LM.hit l y.1).map LM.toS) (l.map LM.toS)):=fun y hy on=>by
     obtain⟨z1,z2⟩:=LM.mem_heldNow.mp hy
     rcases z2 with ⟨_,z⟩ | ⟨z,_⟩
     ·exact h14 _ (List.mem_filter.mp (LM.mem_toS.mp z)).1 z1
     ·rw[on] at z;cases z
    have snd:LM.Sounds (LM.heldNow ((s.filter fun y=>!LM.hit l y.1).map LM.toS) (l.map LM.toS)) (s.filter (fun y=>!LM.hit l y.1)++l):=fun x hx z1=>by
     rw[List.mem_map]
     rcases List.mem_append.mp hx with z | z
     ·exact⟨⟨LM.toS x,true⟩,LM.mem_heldNow.mpr ⟨z1,.inl ⟨rfl,LM.mem_toS.mpr z⟩⟩,rfl⟩
     ·exact⟨⟨LM.toS x,false⟩,LM.mem_heldNow.mpr ⟨z1,.inr ⟨rfl,LM.mem_toS.mpr z⟩⟩,rfl⟩
    refine⟨_,rfl,rfl,_,rfl,iB (by simp) ?_⟩
    have fin:∀(DD:Ends),(∀σ H',(∃(d sb:Addr) (v5 v6 v7 v8:Option V) (kvs:List (Key×V)) (s:List LM.St) (vs:List V) (hs:List (List LuteHand.Held)),σ=[some (.ref la),some (.int (ring:Nat)),some (.ref d),some (.ref sb),some (.ref q),v5,v6,v7,v8]/\H' d=some (.dK kvs)/\H d=none/\(ring≠0->DictOk kvs s)/\(ring=0->s=[])/\LM.apartP s/\H' q=some (.lst vs)/\Paired (MomAt C q H') vs (LM.withPrev [] hs)/\Same H H'/\hs.length<=i+1/\LM.heldS ring [] ls=hs++LM.heldS ring s (ls.drop (i+1))/\StopsAt H' sb ((hs.getLastD []).map LM.pr)/\sb≠q/\(∀x∈s,LM.okStop x)/\LM.Sounds (hs.getLastD []) s)->DD.nx σ H')->∀(d:Addr) (kvs:List (Key×V)) (H2:Hp) (v6 v7:Option V),H2 d=some (.dK kvs)->H d=none->DictOk kvs s->Same H' H2->u DD [some (.ref la),some (.int (ring:Nat)),some (.ref d),some (.ref sb),some (.ref q),some (.ref a),v6,v7,v8] H2:=fun DD hDD d kvs H2 v6 v7 g1 g2 g3 g4 =>
     ru DD d q a p sb n v6 v7 v8 kvs s l (hs.getLastD []) vs H2 g1 g3 h5 (g4 _ _ h6) hvl (g4 _ _ (h8 _ _ ha)) (hst.same (h8.trans g4)) hpq okl.2.2.1 al (h11.same g4) h12 fol okh
      fun H3 kvs' r m v6 v7 f1 f2 f3 f4 f5 f6 f7=>by
       have elast:(hs++[LM.heldNow ((s.filter fun y=>!LM.hit l y.1).map LM.toS) (l.map LM.toS)]).getLastD []=LM.heldNow ((s.filter fun y=>!LM.hit l y.1).map LM.toS) (l.map LM.toS):=by rw[List.getLastD_eq_getLast?];simp
       refine hDD _ _ ⟨d,r,_,v6,v7,_,kvs',if ring=0 then [] else s.filter (fun y=>!LM.hit l y.1)++l,vs++[.ref m],hs++[LM.heldNow ((s.filter fun y=>!LM.hit l y.1).map LM.toS) (l.map LM.toS)],rfl,f1,g2,fun z=>by rw[if_neg z];exact f2,fun z=>by rw[if_pos z],?_,f3,?_,?_,by simp;omega,by rw[h10];simp,by rw[elast];exact f6,f5,?_,?_⟩
       ·split
        ·exact .nil
        ·exact LM.apart_next h5 al
       ·rw[eW]
        exact aV (Paired.mapP (Paired.mapP h7 fun _ _ z=>z.same g4) fun _ _ z=>z.but2 g1 (g4 _ _ h6) f7) f4
       ·intro b o e
        exact f7 b o ((h8.trans g4) b o e) (af e g2) (af e hqn)
       ·split
        ·simp
        ·exact oall
       ·rw[elast]
        split
        ·intro x hx;simp at hx
        ·exact snd
    refine⟨_,rfl,rfl,_,rfl,ite2 (fun hb0=>?_) fun hb0=>?_⟩
    ·have e0:ring=0:=by
      have:V.int (ring:Nat)=V.int 0:=of_decide_eq_true hb0
      injection this with this
      omega
     intro d2 hd2
     have hs0:=h4 e0
     exact fin _ (fun _ _ z=>z) d2 [] _ v6 v7 ac (h8.free hd2) (by rw[hs0];exact DictOk.nil) (Same.new (Same.refl H') hd2)
    ·have e0:¬ring=0:=fun z=>hb0 (decide_eq_true (by rw[z];rfl))
     exact fin _ (fun _ _ z=>z) d kvs H' v6 v7 h1 h2 (h3 e0) (Same.refl H')
  ·rintro σ H' ⟨d,sb,v5,v6,v7,v8,kvs,s,vs,hs,rfl,h1,h2,h3,h4,h5,h6,h7,h8,h9,h10,h11,h12,h13,h14⟩
   refine⟨_,rfl,?_⟩
   have e0:ls.drop lvs.length=[]:=by
    rw[List.drop_eq_nil_iff,hlv.length]
    exact Nat.le_refl _
   rw[e0,LM.heldS_nil,List.append_nil] at h10
   rw[← h10] at h7
   exact k H' q h8 hqn ⟨vs,h6,h7⟩
end
def vZ (C CM:Addr) (H:Hp) (v:V) (r:Except Int (List (List LuteHand.Held))):Prop:=match r with
 | .error z=>∃m dx q,v=.ref m/\H m=some (.ins C dx (two "refusal" "moments" (.int z) (.ref q)))
 | .ok hs=>∃m dx q,v=.ref m/\H m=some (.ins C dx (two "refusal" "moments" (.int 0) (.ref q)))/\MomentsAt CM H q hs
theorem nH:("refusal":Str) ≠ "moments":=by decide +kernel
theorem nq:("stops":Str) ≠ "ties":=by decide +kernel
abbrev bT:Stmt:=top 79
abbrev sP:List Str:=["ring","t","lines"]
def jx (K:W.Frag) (C CM:Addr):Sp:=fun vs H Q _=>∃(ring:Nat) (a:Addr) (ns:List Nat),vs=[.int (ring:Nat),.ref a]/\SqL K H a (ns.map fun (n:Nat)=>V.int (n:Int))/\∀H' v,Same H H'->vZ C CM H' v (LM.rdg ring ns)->Q v H'
section
variable {P:Program}{w:World}{K:W.Frag}{mg:Str->Option Value}{base:Heap}{C:Addr}
theorem scReadMoms:FnScope sP ["ring","t"] (ad bT):=⟨rfl,rfl,rfl,by decide +kernel,rfl,by decide +kernel,by decide +kernel⟩
theorem nS {f fP fH CR fR CM:Addr}{fd fdP fdH fdR:FuncData} (D:Df K mg "read_moments" bT ["ring","t"] f fd) (DP:Df K mg "read_piece" fU ["codes"] fP fdP) (DH:Df K mg "held_moments" bq ["lines","ring"] fH fdH) (KR:KRead K mg CR fR fdR)
  (GP:FnOk P w K mg base (CXF P w C) 8 fP fdP ["codes"] (qx K C)) (GH:FnOk P w K mg base CX0 3 fH fdH ["lines","ring"] (jy CM)) (hC:ExC K mg "NoPiece" C) (gM:GV mg "MOST_BYTES" (.int 65536)) (gR:GV mg "LAST_RINGING" (.int 2)) (gL:mg "len" = none) :
  FnOk P w K mg base CX0 9 f fd ["ring","t"] (jx K CR CM):=by
 have GI:FnOk P w K mg base CX0 1 fR fdR dY (dr CR "refusal" "moments"):=nT KR
 have GH0:FnOkH P w K mg base 1 fR fdR dY (dr CR "refusal" "moments"):=uZ KR
 refine D.fn.ok scReadMoms (fun vs H Q E h=>?_) (fun cdv A outer s0 H vs Q E hr h=>?_)
 ·obtain⟨ring,a,ns,rfl,_⟩:=h
  rfl
 ·obtain⟨ring,a,ns,rfl,hS,k⟩:=h
  have hr2:=hr.mono (show 2<=8 by decide)
  refine⟨_,ae (aM (aq dg (aR aZ (by rfl) gL PySem.boot_len (aa (pv 1) ag)) (bc gM rfl) (nomark _)) (ah (aA (gq KR.mkd GI hr2 rfl KR.at_ KR.b .nil pass0 (aa (dW cA ao) (aa (bn ag) ag))))) aw)
   (ae (yf rfl rfl rfl hC (fun E' pins=>ah (aG (i:=2) scReadMoms.nd rfl (Or.inl rfl) (aE GP hr rfl DP.at_ DP.fn.kp DP.b .nil pD (aa (pv 1) ag)))) (fun e=>ah (aA (uP KR.mkd GH0 (hr2.toH.mark _) rfl KR.at_ KR.b .nil (aa (dW cA ao) (aa (bn ag) ag))))))
   (ae (aM (aq dg (pv 0) (bc gR rfl) (nomark _)) (ah (aA (gq KR.mkd GI hr2 rfl KR.at_ KR.b .nil pass0 (aa (dW cA ao) (aa (bn ag) ag))))) aw)
   (ah (aA (gq KR.mkd GI hr2 rfl KR.at_ KR.b .nil pass0 (aa ao (aa (aE GH (hr.mono (by decide)) rfl DH.at_ DH.fn.kp DH.b .nil pass0 (aa (pv 2) (aa (pv 0) ag))) ag))))))),?_⟩
  have bad:∀(z:Int) (H1:Hp),Same H H1->LM.rdg ring ns=.error z->∀q,H1 q=none->∀p dx,upd H1 q (.lst []) p=none->upd H1 q (.lst []) dx=none->dx≠p->dr CR "refusal" "moments" (.ref p::([.int z,.ref q]++[])) (upd (upd (upd H1 q (.lst [])) dx (.own p)) p (.ins CR dx [])) (fun v H2=>v=.non/\Q (.ref p) H2) E :=
   fun z H1 s1 e q hq p dx hp hd _=>made2 hp hd fun H' s hp'=>k H' _ ((s1.new hq).trans s) (by rw[e];exact⟨p,dx,q,rfl,hp'⟩)
  refine⟨_,rfl,a,_,rfl,.inl hS,_,_,rfl,rfl,_,rfl,?_⟩
  rw[List.length_map]
  refine ite2 (fun h1=>?_) fun h1=>?_
  ·have h1':(65536:Int)<(ns.length:Nat):=of_decide_eq_true h1
   exact⟨_,rfl,Nat.zero_le _,fun q hq=>bad (-2) H (Same.refl H) (by unfold LM.rdg;rw[if_pos (by omega)]) q hq⟩
  have h1':¬65536<ns.length:=fun q=>h1 (decide_eq_true (by omega))
  refine⟨_,rfl,a,ns,rfl,hS,by omega,?_⟩
  cases hm:LM.mPiece (ns.map LM.clean) with
  | none =>
   intro H1 s1
   exact⟨_,rfl,Nat.zero_le _,fun q hq=>bad (-6) H1 s1 (by unfold LM.rdg;rw[if_neg h1',hm]) q hq⟩
  | some ls =>
   intro H1 la s1 hla hl
   have okp:=LM.mPiece_ok hm
   refine⟨_,rfl,_,_,rfl,rfl,_,rfl,ite2 (fun h2=>?_) fun h2=>?_⟩
   ·have h2':(2:Int)<(ring:Nat):=of_decide_eq_true h2
    exact⟨_,rfl,Nat.zero_le _,fun q hq=>bad (-1) H1 s1 (by unfold LM.rdg;rw[if_neg h1',hm];dsimp only;rw[if_pos (by omega)]) q hq⟩
   have h2':¬2<ring:=fun q=>h2 (decide_eq_true (by omega))
   refine⟨_,rfl,_,rfl,la,ring,ls,rfl,hl,okp.1,okp.2,fun H2 q s2 hq hq2=>?_⟩
   intro p dx hp hd _
   refine made2 hp hd fun H' s hp'=>k H' _ ((s1.trans s2).trans s) ?_
   have e:LM.rdg ring ns=.ok (LM.heldS ring [] ls):=by unfold LM.rdg;rw[if_neg h1',hm];dsimp only;rw[if_neg h2']
   rw[e]
   exact⟨p,dx,q,rfl,hp',hq2.same s⟩
end
def fv (fs:List Nat):List V:=fs.map fun (n:Nat)=>V.int (n:Nat)
def FingAt (H:Hp) (v:V) (fs:List Nat):Prop:=∃a,v=.ref a/\H a=some (.tup (fv fs))
def GripAt (H:Hp) (v:V) (g:LuteHand.Grip):Prop:=∃a fa,v=.ref a/\H a=some (.tup [.int (g.pos:Nat),.ref fa])/\H fa=some (.tup (fv g.fingers))
theorem FingAt.mono {H H':Hp}{v:V}{x:List Nat} (k:∀a xs,H a=some (.tup xs)->H' a=some (.tup xs)) (h:FingAt H v x):FingAt H' v x:=by
 obtain⟨a,e,ha⟩:=h
 exact⟨a,e,k _ _ ha⟩
theorem GripAt.mono {H H':Hp}{v:V}{x:LuteHand.Grip} (k:∀a xs,H a=some (.tup xs)->H' a=some (.tup xs)) (h:GripAt H v x):GripAt H' v x:=by
 obtain⟨a,fa,e,ha,hf⟩:=h
 exact⟨a,fa,e,k _ _ ha,k _ _ hf⟩
theorem bM {H H':Hp}{vs:List V}{l:List (List Nat)} (k:∀a xs,H a=some (.tup xs)->H' a=some (.tup xs)) (h:Paired (FingAt H) vs l):Paired (FingAt H') vs l:=Paired.mapP h fun _ _ q=>q.mono k
theorem cG {H H':Hp}{vs:List V}{l:List LuteHand.Grip} (k:∀a xs,H a=some (.tup xs)->H' a=some (.tup xs)) (h:Paired (GripAt H) vs l):Paired (GripAt H') vs l:=Paired.mapP h fun _ _ q=>q.mono k
def GripsAt (H:Hp) (p:Addr) (l:List LuteHand.Grip):Prop:=∃vs,H p=some (.lst vs)/\Paired (GripAt H) vs l
theorem GripsAt.same {H H':Hp}{p:Addr}{l:List LuteHand.Grip} (k:Same H H') (h:GripsAt H p l):GripsAt H' p l:=by
 obtain⟨vs,h1,h2⟩:=h
 exact⟨vs,k _ _ h1,cG (fun a xs e=>k _ _ e) h2⟩
theorem Same.tup {H H':Hp} (k:Same H H'):∀a xs,H a=some (.tup xs)->H' a=some (.tup xs):=fun _ _ e=>k _ _ e
def tog (x:LM.St) (f:Nat) (y:LM.St) (g:Nat):Bool:=LuteHand.together (LM.toS x,f) (LM.toS y,g)
abbrev fO:Stmt:=top 4
abbrev il:List Str:=["position","finger","fret"]
def qw:Sp:=fun vs H Q _=>∃p f r:Nat,vs=[.int (p:Nat),.int (f:Nat),.int (r:Nat)]/\1<=f/\f<=4/\Q (.bl (LuteHand.reaches p f r)) H
section
variable {P:Program}{w:World}{K:W.Frag}{mg:Str->Option Value}{base:Heap}
theorem wo:FnScope il il (ad fO):=⟨rfl,rfl,rfl,by decide +kernel,rfl,by decide +kernel,by decide +kernel⟩
theorem u0 {f:Addr}{fd:FuncData} (D:Df K mg "can_reach" fO il f fd):FnOk P w K mg base CX0 1 f fd il qw:=by
 refine D.fn.ok wo (fun vs H Q E h=>?_) (fun cdv A outer s0 H vs Q E hr h=>?_)
 ·obtain⟨p,f,r,rfl,_⟩:=h
  rfl
 ·obtain⟨p,f,r,rfl,h1,h4,k⟩:=h
  refine⟨_,ah (aA (nM qR qR (bb cZ (bb cj (pv 0) (pv 1)) ao) (pv 2) (bb cj (pv 0) (pv 1)))),?_⟩
  refine⟨_,rfl,_,rfl,_,_,rfl,rfl,_,_,rfl,rfl,_,rfl,_,_,rfl,rfl,_,rfl,?_⟩
  have e1:decide (1<=f)=true:=decide_eq_true h1
  have e4:decide (f<=4)=true:=decide_eq_true h4
  unfold LuteHand.reaches at k
  rw[e1,e4,Bool.true_and,Bool.true_and] at k
  refine ite2 (fun q=>?_) fun q=>?_
  ·have q':(p:Int)+(f:Nat)-2<=(r:Nat):=of_decide_eq_true q
   rw[decide_eq_true (show p+f<=r+2 by omega),Bool.true_and] at k
   refine⟨_,rfl,_,rfl,_,_,rfl,rfl,_,_,rfl,rfl,?_⟩
   have e:decide ((r:Int)<=(p:Nat)+(f:Nat))=decide (r<=p+f):=by
    rw[Bool.eq_iff_iff,decide_eq_true_eq,decide_eq_true_eq]
    omega
   rw[← e] at k
   exact k
  ·have q':¬(p:Int)+(f:Nat)-2<=(r:Nat):=fun z=>q (decide_eq_true z)
   rw[decide_eq_false (show ¬p+f<=r+2 by omega),Bool.false_and] at k
   exact k
abbrev kT:Stmt:=top 5
abbrev kZ:List Str:=["stop","finger","other_stop","other_finger"]
def uj (K:W.Frag):Sp:=fun vs H Q _=>∃(a b:Addr) (x y:LM.St) (f g:Nat),vs=[.ref a,.int (f:Nat),.ref b,.int (g:Nat)]/\H a=some (.tup [.int (x.1:Nat),.int (x.2:Nat)])/\H b=some (.tup [.int (y.1:Nat),.int (y.2:Nat)])/\f<=g/\Q (.bl (tog x f y g)) H
def xF (K:W.Frag):Sp:=fun vs H Q _=>∃(a b:Addr) (x y:LM.St) (f g:Nat),vs=[.ref a,.int (f:Nat),.ref b,.int (g:Nat)]/\H a=some (.tup [.int (x.1:Nat),.int (x.2:Nat)])/\H b=some (.tup [.int (y.1:Nat),.int (y.2:Nat)])/\Q (.bl (tog x f y g)) H
theorem xG:FnScope kZ kZ (ad kT):=⟨rfl,rfl,rfl,by decide +kernel,rfl,by decide +kernel,by decide +kernel⟩
theorem yK {a b:Nat}:(V.int (a:Nat)=V.int (b:Nat))↔a=b:=by
 constructor
 ·intro h
  injection h with h
  omega
 ·rintro rfl;rfl
theorem bJ (a b:Nat):decide (V.int (a:Nat)=V.int (b:Nat))=decide (a=b):=by
 rw[Bool.eq_iff_iff,decide_eq_true_eq,decide_eq_true_eq]
 exact yK
theorem t9 (x y:LM.St) {f g:Nat} (h:f≠g):tog x f y g=tog y g x f:=by
 unfold tog LuteHand.together
 dsimp only
 rw[if_neg h,if_neg (Ne.symm h)]
 rcases Nat.lt_or_gt_of_ne h with q | q
 ·rw[if_pos q,if_pos q,if_neg (Nat.lt_asymm q),if_neg (Nat.lt_asymm q)]
 ·rw[if_neg (Nat.lt_asymm q),if_neg (Nat.lt_asymm q),if_pos q,if_pos q]
theorem nh {CX:CXT}{cdv:Value}{A:Around}{outer:List Env}{s0:Shared}{H:Hp}{E:XK}{f0:Addr}:∃u,PSs (cxOf CX P w K mg base kZ "go_together" (ad kT) f0 cdv A outer s0 H E).nox ((au kT).drop 2) u /\
  ∀(D:Ends) (a b:Addr) (x y:LM.St) (f g:Nat),H a=some (.tup [.int (x.1:Nat),.int (x.2:Nat)])->H b=some (.tup [.int (y.1:Nat),.int (y.2:Nat)])->f<g->D.rt (.bl (tog x f y g)) H->u D [some (.ref a),some (.int (f:Nat)),some (.ref b),some (.int (g:Nat))] H:=by
 refine⟨_,ae (aM (aq bz (aJ aX (pv 0) ao (fun _ _=>rfl)) (aJ aX (pv 2) ao (fun _ _=>rfl)) (nomark _)) (ah (aA (bI dg (aJ aX (pv 0) ao (fun _ _=>rfl)) (aJ aX (pv 2) ao (fun _ _=>rfl)) (nomark _)))) aw)
  (ah (aA (bI lE (aJ aX (pv 0) ao (fun _ _=>rfl)) (aJ aX (pv 2) ao (fun _ _=>rfl)) (nomark _)))),?_⟩
 intro D a b x y f g ha hb hfg k
 have et:tog x f y g=(decide (x.2<y.2) || (x.2==y.2&&decide (y.1<x.1))):=by
  unfold tog LuteHand.together
  dsimp only
  rw[if_neg (Nat.ne_of_lt hfg),if_pos hfg,if_pos hfg]
  rfl
 rw[et] at k
 refine⟨_,rfl,a,_,_,_,rfl,rfl,SqT.of ha,az (j:=1) rfl,_,rfl,b,_,_,_,rfl,rfl,SqT.of hb,az (j:=1) rfl,rfl,_,rfl,?_⟩
 rw[bJ]
 refine ite2 (fun q=>?_) fun q=>?_
 ·have q':x.2=y.2:=of_decide_eq_true q
  refine⟨_,rfl,a,_,_,_,rfl,rfl,SqT.of ha,az (j:=0) rfl,_,rfl,b,_,_,_,rfl,rfl,SqT.of hb,az (j:=0) rfl,_,_,rfl,rfl,?_⟩
  have e:decide (((y.1:Nat):Int)<(x.1:Nat))=(decide (x.2<y.2) || (x.2==y.2&&decide (y.1<x.1))):=by
   rw[q']
   simp
  rw[← e] at k
  exact k
 ·have q':¬x.2=y.2:=fun z=>q (decide_eq_true z)
  refine⟨_,rfl,a,_,_,_,rfl,rfl,SqT.of ha,az (j:=1) rfl,_,rfl,b,_,_,_,rfl,rfl,SqT.of hb,az (j:=1) rfl,_,_,rfl,rfl,?_⟩
  have e:decide (((x.2:Nat):Int)<(y.2:Nat))=(decide (x.2<y.2) || (x.2==y.2&&decide (y.1<x.1))):=by
   have:(x.2==y.2)=false:=by simp[q']
   rw[this]
   simp
  rw[← e] at k
  exact k
theorem wH {f0:Addr}{fd:FuncData} (D:Df K mg "go_together" kT kZ f0 fd) (gB:GV mg "BARRE_FINGER" (.int 1)):FnOk P w K mg base CX0 1 f0 fd kZ (uj K):=by
 refine D.fn.ok xG (fun vs H Q E h=>?_) (fun cdv A outer s0 H vs Q E hr h=>?_)
 ·obtain⟨_,_,_,_,_,_,rfl,_⟩:=h
  rfl
 ·obtain⟨a,b,x,y,f,g,rfl,ha,hb,hfg,k⟩:=h
  obtain⟨u,hu,ru⟩:=nh (P:=P) (w:=w) (K:=K) (mg:=mg) (base:=base) (CX:=CX0) (cdv:=cdv) (A:=A) (outer:=outer) (s0:=s0) (H:=H) (E:=E) (f0:=f0)
  refine⟨_,ae (aM (aq bz (pv 1) (pv 3) (nomark _)) (ah (aA (pC (bI bz (pv 1) (bc gB rfl) (nomark _)) (mG (bI bz (aJ aX (pv 0) ao (fun _ _=>rfl)) (aJ aX (pv 2) ao (fun _ _=>rfl)) (nomark _)))))) aw)
   (ae (aM (aq dg (pv 1) (pv 3) (nomark _)) si aw) hu),?_⟩
  refine⟨_,rfl,_,rfl,rfl,_,rfl,?_⟩
  rw[bJ]
  refine ite2 (fun q=>?_) fun q=>?_
  ·have q':f=g:=of_decide_eq_true q
   have et:tog x f y g=(decide (f=1)&&decide (x.2=y.2)):=by
    unfold tog LuteHand.together
    dsimp only
    rw[if_pos q',Bool.eq_iff_iff]
    simp[LM.toS]
   rw[et] at k
   refine⟨_,rfl,rfl,_,rfl,?_⟩
   rw[show decide (V.int (f:Nat)=V.int 1)=decide (f=1) from bJ f 1]
   refine ite2 (fun z=>?_) fun z=>?_
   ·rw[z,Bool.true_and] at k
    refine⟨_,rfl,a,_,_,_,rfl,rfl,SqT.of ha,az (j:=1) rfl,_,rfl,b,_,_,_,rfl,rfl,SqT.of hb,az (j:=1) rfl,rfl,?_⟩
    rw[bJ]
    exact k
   ·have z':decide (f=1)=false:=by simpa using z
    rw[z',Bool.false_and] at k
    exact k
  ·have q':¬f=g:=fun z=>q (decide_eq_true z)
   refine⟨_,rfl,_,rfl,_,_,rfl,rfl,_,rfl,iB (by simp;omega) ?_⟩
   exact ru _ a b x y f g ha hb (by omega) k
theorem yp {f0:Addr}{fd:FuncData} (D:Df K mg "go_together" kT kZ f0 fd) (gB:GV mg "BARRE_FINGER" (.int 1)):FnOk P w K mg base CX0 2 f0 fd kZ (xF K):=by
 have G0:FnOk P w K mg base CX0 1 f0 fd kZ (uj K):=wH D gB
 refine D.fn.ok xG (fun vs H Q E h=>?_) (fun cdv A outer s0 H vs Q E hr h=>?_)
 ·obtain⟨_,_,_,_,_,_,rfl,_⟩:=h
  rfl
 ·obtain⟨a,b,x,y,f,g,rfl,ha,hb,k⟩:=h
  obtain⟨u,hu,ru⟩:=nh (P:=P) (w:=w) (K:=K) (mg:=mg) (base:=base) (CX:=CX0) (cdv:=cdv) (A:=A) (outer:=outer) (s0:=s0) (H:=H) (E:=E) (f0:=f0)
  refine⟨_,ae (aM (aq bz (pv 1) (pv 3) (nomark _)) (ah (aA (pC (bI bz (pv 1) (bc gB rfl) (nomark _)) (mG (bI bz (aJ aX (pv 0) ao (fun _ _=>rfl)) (aJ aX (pv 2) ao (fun _ _=>rfl)) (nomark _)))))) aw)
   (ae (aM (aq dg (pv 1) (pv 3) (nomark _)) (ah (aA (aE G0 hr rfl D.at_ D.fn.kp D.b .nil pass0 (aa (pv 2) (aa (pv 3) (aa (pv 0) (aa (pv 1) ag))))))) aw) hu),?_⟩
  refine⟨_,rfl,_,rfl,rfl,_,rfl,?_⟩
  rw[bJ]
  refine ite2 (fun q=>?_) fun q=>?_
  ·have q':f=g:=of_decide_eq_true q
   have et:tog x f y g=(decide (f=1)&&decide (x.2=y.2)):=by
    unfold tog LuteHand.together
    dsimp only
    rw[if_pos q',Bool.eq_iff_iff]
    simp[LM.toS]
   rw[et] at k
   refine⟨_,rfl,rfl,_,rfl,?_⟩
   rw[show decide (V.int (f:Nat)=V.int 1)=decide (f=1) from bJ f 1]
   refine ite2 (fun z=>?_) fun z=>?_
   ·rw[z,Bool.true_and] at k
    refine⟨_,rfl,a,_,_,_,rfl,rfl,SqT.of ha,az (j:=1) rfl,_,rfl,b,_,_,_,rfl,rfl,SqT.of hb,az (j:=1) rfl,rfl,?_⟩
    rw[bJ]
    exact k
   ·have z':decide (f=1)=false:=by simpa using z
    rw[z',Bool.false_and] at k
    exact k
  ·have q':¬f=g:=fun z=>q (decide_eq_true z)
   refine⟨_,rfl,_,rfl,_,_,rfl,rfl,_,rfl,ite2 (fun z=>?_) fun z=>?_⟩
   ·have z':((g:Nat):Int)<(f:Nat):=of_decide_eq_true z
    rw[t9 x y q'] at k
    exact⟨_,rfl,_,rfl,_,rfl,_,rfl,b,a,y,x,g,f,rfl,hb,ha,by omega,k⟩
   ·have z':¬((g:Nat):Int)<(f:Nat):=fun zz=>z (decide_eq_true zz)
    exact ru _ a b x y f g ha hb (by omega) k
abbrev iS:Stmt:=top 6
abbrev xM:List Str:=["stops","fingers","finger","stop","other","own"]
def xx (L:List LM.St) (fs:List Nat) (s:LM.St) (f:Nat):Bool:=(L.zip fs).all fun y=>tog y.1 y.2 s f
def uo:Sp:=fun vs H Q _=>∃(sp fp:Addr) (L:List LM.St) (fs:List Nat) (s:LM.St) (f:Nat),vs=[.ref sp,.ref fp,.int (f:Nat)]/\StopsAt H sp L/\H fp=some (.tup (fv fs))/\L[fs.length]?=some s/\fs.length<=15/\∀H',Same H H'->Q (.bl (xx L fs s f)) H'
theorem scFits:FnScope xM ["stops","fingers","finger"] (ad iS):=⟨rfl,rfl,rfl,by decide +kernel,rfl,by decide +kernel,by decide +kernel⟩
theorem wN {f0 fT:Addr}{fd fdT:FuncData} (D:Df K mg "fits" iS ["stops","fingers","finger"] f0 fd) (DT:Df K mg "go_together" kT kZ fT fdT) (GT:FnOk P w K mg base CX0 2 fT fdT kZ (xF K)) (gL:mg "len" = none) (gA:mg "all" = none) (gZ:mg "zip" = none) :
  FnOk P w K mg base CX0 3 f0 fd ["stops","fingers","finger"] uo:=by
 refine D.fn.ok scFits (fun vs H Q E h=>?_) (fun cdv A outer s0 H vs Q E hr h=>?_)
 ·obtain⟨_,_,_,_,_,_,rfl,_⟩:=h
  rfl
 ·obtain⟨sp,fp,L,fs,s,f,rfl,⟨sv,hs1,hs2⟩,hf,hs,hlen,k⟩:=h
  refine⟨_,ae (aG (i:=3) scFits.nd rfl (Or.inr rfl) (aJ aY (pv 0) (aR aZ (by rfl) gL PySem.boot_len (aa (pv 1) ag)) (fun _ _=>rfl)))
   (ah (aA (aR (qb rfl) (by rfl) gA boot_all (aa (jJ (g:=tG K 2 (eq (cH 4) (eq (cH 5) tH))) (own:=[("other",4),("own",5)]) rfl scFits.nd (qM rfl gZ (aa (pv 0) (aa (pv 1) ag))) (BlkOk.mk (N:=xM) (sc:=ad iS) rfl (by decide +kernel) (by decide +kernel) (by decide +kernel) (by decide +kernel))
    (fun _ _ _ _ _=>bV (n:=2) rfl (aO (aD (i:=4) scFits.nd rfl (Or.inl rfl)) (aO (aD (i:=5) scFits.nd rfl (Or.inl rfl)) bD))) (fun _ _ _ _ _=>cr)
    (fun _ _ _ _ _=>aE GT hr rfl DT.at_ DT.fn.kp DT.b .nil pass0 (aa (pv 4) (aa (pv 5) (aa (pv 3) (aa (pv 2) ag)))))) ag)))),?_⟩
  have hfl:(fv fs).length=fs.length:=by simp[fv]
  obtain⟨vs0,hvs0,a0,rfl,ha0⟩:∃v,sv[fs.length]?=some v/\StopAt H v s:=by
   have hl:=hs2.length
   have hi:=(List.getElem?_eq_some_iff.mp hs).1
   obtain⟨b,hb1,hb2⟩:=aI hs2 (List.getElem?_eq_getElem (i:=fs.length) (l:=sv) (by omega))
   rw[hs] at hb1
   cases hb1
   exact⟨_,List.getElem?_eq_getElem (by omega),hb2⟩
  refine⟨_,rfl,_,rfl,fp,_,rfl,.inr (SqT.of hf),sp,_,_,_,rfl,rfl,SqL.of hs1,(by rw[hfl];exact az hvs0),?_⟩
  refine⟨_,rfl,_,rfl,sp,fp,_,_,rfl,SqL.of hs1,SqT.of hf,fun R hR=>?_⟩
  have hmin:min sv.length (fv fs).length=fs.length:=by
   have hl:=hs2.length
   have hi:=(List.getElem?_eq_some_iff.mp hs).1
   rw[hfl]
   omega
  refine qY (K:=K) (a:=sp) (b:=fp) (xs:=sv) (ys:=fv fs) hmin (fun i H2=>H2 R=some (.lst (((L.zip fs).take i).map fun y=>V.bl (tog y.1 y.2 s f)))/\Same H H2) ⟨ac,Same.new (Same.refl H) hR⟩ (fun i H2 ⟨_,h2⟩=>⟨SqL.of (h2 _ _ hs1),SqT.of (h2 _ _ hf)⟩) ?_ ?_
  ·rintro i v u H2 t hv hu ⟨h1,h2⟩ ht
   obtain⟨y,hy,a,rfl,ha⟩:=aI hs2 hv
   unfold fv at hu
   rw[List.getElem?_map] at hu
   obtain⟨fi,hfi,rfl⟩:=Option.map_eq_some_iff.mp hu
   have s3:Same H (upd H2 t (.tup [.ref a,.int (fi:Nat)])):=h2.new ht
   refine⟨t,_,rfl,SqT.of ac,rfl,_,_,rfl,_,_,rfl,rfl,rfl,mn ?_⟩
   refine⟨_,rfl,_,rfl,_,rfl,_,rfl,a,a0,y,s,fi,f,rfl,s3 _ _ ha,s3 _ _ ha0,?_⟩
   have hRt:R≠t:=af h1 ht
   refine⟨_,by rw[ai hRt];exact h1,?_,?_,fun c o e=>by rw[ai (af e hR)];exact s3 c o e⟩
   ·rw[List.length_map,List.length_take]
    refine Nat.lt_of_le_of_lt (Nat.min_le_right _ _) ?_
    rw[List.length_zip]
    exact Nat.lt_of_le_of_lt (Nat.min_le_right _ _) (Nat.lt_of_le_of_lt hlen (by decide))
   ·have hz:(L.zip fs)[i]?=some (y,fi):=by
     rw[List.getElem?_zip_eq_some]
     exact⟨hy,hfi⟩
    rw[ac,aT hz,List.map_append]
    rfl
  ·rintro H2 ⟨h1,h2⟩
   have e0:(L.zip fs).take fs.length=L.zip fs:=by
    refine List.take_of_length_le ?_
    rw[List.length_zip]
    exact Nat.min_le_right _ _
   rw[e0] at h1
   refine⟨R,(L.zip fs).map fun y=>tog y.1 y.2 s f,rfl,SqL.of (by rw[h1,List.map_map];rfl),?_⟩
   have e1:((L.zip fs).map fun y=>tog y.1 y.2 s f).all id=xx L fs s f:=by
    rw[List.all_map]
    rfl
   rw[e1]
   exact k _ h2
end
theorem qi (s:LuteHand.Held) (f:Nat):∀(t:List LuteHand.Held) (fs:List Nat),(((t.map LM.pr).zip fs).all fun y=>tog y.1 y.2 (LM.pr s) f)=(LM.pairs t fs).all fun y=>LuteHand.together y (s.halt_,f)
 | [],fs=>by simp[LM.pairs]
 | a::t,[]=>by simp[LM.pairs]
 | a::t,g::fs=>by
  have ih:=qi s f t fs
  unfold LM.pairs at ih ⊢
  rw[List.map_cons,List.map_cons,List.zip_cons_cons,List.zip_cons_cons,List.all_cons,List.all_cons,ih]
  rfl
theorem vK {h:List LuteHand.Held}{i:Nat}{s:LuteHand.Held}{fs:List Nat}{f:Nat} (hs:h[i]?=some s) (hl:fs.length=i):xx (h.map LM.pr) fs (LM.pr s) f=(LM.pairs (h.take i) fs).all fun y=>LuteHand.together y (s.halt_,f):=by
 unfold xx
 have e:(h.map LM.pr).zip fs=((h.take i).map LM.pr).zip fs:=by
  have h1:h.map LM.pr=(h.take i).map LM.pr++(h.drop i).map LM.pr:=by rw[← List.map_append,List.take_append_drop]
  have hi:=(List.getElem?_eq_some_iff.mp hs).1
  rw[h1]
  conv=>lhs;rw[← List.append_nil fs]
  rw[List.zip_append (by rw[List.length_map,List.length_take];omega)]
  simp
 rw[e,qi]
abbrev dS:Stmt:=top 7
abbrev vo:List Str:=["stops","position","begun","course","fret","reaching","longer","fingers","finger"]
def xD (H:Hp) (p:Addr) (l:List (List Nat)):Prop:=∃vs,H p=some (.lst vs)/\Paired (FingAt H) vs l
def qD:Sp:=fun vs H Q _=>∃(sp:Addr) (p:Nat) (h:List LuteHand.Held),vs=[.ref sp,.int (p:Nat)]/\StopsAt H sp (h.map LM.pr)/\h.length<=6/\∀H' q,Same H H'->H q=none->xD H' q (LM.gripsAt p h)->Q (.ref q) H'
def reach4 (p fr:Nat):List Nat:=[1,2,3,4].filter fun f=>LuteHand.reaches p f fr
theorem w6 (p:Nat) (h:List LuteHand.Held) (s:LuteHand.Held) (l:List Nat):LM.more p h s l=((reach4 p s.halt_.fret).filter fun f=>(LM.pairs h l).all fun y=>LuteHand.together y (s.halt_,f)).map fun f=>l++[f]:=rfl
section
variable {P:Program}{w:World}{K:W.Frag}{mg:Str->Option Value}{base:Heap}
theorem scFings:FnScope vo ["stops","position"] (ad dS):=⟨rfl,rfl,rfl,by decide +kernel,rfl,by decide +kernel,by decide +kernel⟩
theorem eB {α:Type} (q:α->Bool) {l:List α}{i:Nat}{x:α} (h:l[i]?=some x):(l.take (i+1)).filter q=(l.take i).filter q++(if q x=true then [x] else []):=by
 rw[aT h,List.filter_append]
 congr 1
 by_cases e:q x=true
 ·simp[e]
 ·simp[e]
theorem vf {f0 fR fF aF:Addr}{fd fdR fdF:FuncData} (D:Df K mg "fingerings" dS ["stops","position"] f0 fd) (DR:Df K mg "can_reach" fO il fR fdR) (DF:Df K mg "fits" iS ["stops","fingers","finger"] fF fdF)
  (GR:FnOk P w K mg base CX0 1 fR fdR il qw) (GF:FnOk P w K mg base CX0 3 fF fdF ["stops","fingers","finger"] uo) (gF:GT K mg "FINGERS" (fv [1,2,3,4]) aF):FnOk P w K mg base CX0 4 f0 fd ["stops","position"] qD:=by
 refine D.fn.ok scFings (fun vs H Q E h=>?_) (fun cdv A outer s0 H vs Q E hr h=>?_)
 ·obtain⟨_,_,_,rfl,_⟩:=h
  rfl
 ·obtain⟨sp,p,h,rfl,hst,hlen,k⟩:=h
  have hst0:=hst
  obtain⟨sv,hs1,hs2⟩:=hst
  refine⟨_,ae (aG (i:=2) scFings.nd rfl (Or.inl rfl) (bn (aa (bW ag) ag)))
   (ae (br PassesOwn.never rfl (bo (pv 0)) (bV (n:=2) rfl (aO (aD (i:=3) scFings.nd rfl (Or.inl rfl)) (aO (aD (i:=4) scFings.nd rfl (Or.inr rfl)) bD)))
    (ae (gp (i:=5) (own:=[("finger",8)]) rfl scFings.nd rfl rfl (jh rfl rfl rfl rfl) (pA (dM gF rfl)) (BlkOk.mk (N:=vo) (sc:=ad dS) rfl (by decide +kernel) (by decide +kernel) (by decide +kernel) (by decide +kernel))
     (fun _ _ _ _ _=>aD (i:=8) scFings.nd rfl (Or.inl rfl)) (fun _ _ _ _ _=>mF (cY (aE GR (hr.mono (by decide)) rfl DR.at_ DR.fn.kp DR.b .nil pass0 (aa (pv 1) (aa (pv 8) (aa (pv 4) ag)))))) (fun _ _ _ _ _=>pv 8))
    (ae (aG (i:=6) scFings.nd rfl (Or.inl rfl) (bn ag))
    (ae (br PassesOwn.never rfl (bo (pv 2)) (aD (i:=7) scFings.nd rfl (Or.inl rfl))
     (ah (br PassesOwn.never rfl (bo (pv 5)) (aD (i:=8) scFings.nd rfl (Or.inl rfl))
      (ah (aM (cY (aE GF hr rfl DF.at_ DF.fn.kp DF.b .nil pass0 (aa (pv 0) (aa (pv 7) (aa (pv 8) ag)))))
       (ah (cu (cS F.plainAttrs_list F.slot_list_append F.type_list_append bE (pv 6) (aa (bb wF (pv 7) (bW (aa (pv 8) ag))) ag)))) aw)))))
    (ah (aG (i:=2) scFings.nd rfl (Or.inl rfl) (pv 6)))))))
   (ah (aA (pv 2)))),?_⟩
  refine⟨Nat.zero_le _,fun t0 ht0=>⟨by show 1<=sizeLine;decide,fun b0 hb0=>?_⟩⟩
  have sA:Same H (upd (upd H t0 (.tup [])) b0 (.lst [.ref t0])):=(Same.new (Same.refl H) ht0).new hb0
  have hb0n:H b0=none:=(Same.new (Same.refl H) ht0).free hb0
  have ht0b:t0≠b0:=af ac hb0
  refine⟨_,rfl,sp,rfl,⟨_,SqL.of (sA _ _ hs1)⟩,cg (K:=K) (a:=sp) (xs:=sv) (fun i σ H'=>∃(bg:Addr) (v3 v4 v5 v6 v7 v8:Option V) (vs:List V),σ=[some (.ref sp),some (.int (p:Nat)),some (.ref bg),v3,v4,v5,v6,v7,v8]/\H bg=none/\H' bg=some (.lst vs)/\Paired (FingAt H') vs (LM.gripsAt p (h.take i))/\Same H H')
   ⟨b0,none,none,none,none,none,none,_,rfl,hb0n,ac,.cons ⟨t0,rfl,by rw[ai ht0b,ac];rfl⟩ .nil,sA⟩ (fun i σ H' _ ⟨_,_,_,_,_,_,_,_,_,_,_,_,h9⟩=>SqL.of (h9 _ _ hs1)) ?_ ?_⟩
  ·rintro i v σ H' hv ⟨bg,v3,v4,v5,v6,v7,v8,vs,rfl,g1,g2,g3,g4⟩
   obtain⟨y,hy,a,rfl,ha⟩:=aI hs2 hv
   rw[List.getElem?_map] at hy
   obtain⟨s,hs,ex⟩:=Option.map_eq_some_iff.mp hy
   subst ex
   have hi:=(List.getElem?_eq_some_iff.mp hs).1
   have htk:h.take (i+1)=h.take i++[s]:=aT hs
   have hcnt:(LM.gripsAt p (h.take i)).length<=4096:=LM.gripsAt_count (by rw[List.length_take];omega)
   have hGl:∀l∈LM.gripsAt p (h.take i),l.length=i:=fun l hl=>by rw[LM.gripsAt_len hl,List.length_take];omega
   generalize hG:LM.gripsAt p (h.take i)=G at g3 hcnt hGl
   refine⟨a,_,rfl,SqT.of (g4 _ _ ha),rfl,_,_,rfl,_,_,rfl,rfl,?_⟩
   refine⟨aF,rfl,⟨_,gF.tab.sq _⟩,fun R hR=>?_⟩
   have hRn:H R=none:=g4.free hR
   refine yD (K:=K) (a:=aF) (xs:=fv [1,2,3,4]) (fun j H2=>∃rs,rs=(([1,2,3,4]:List Nat).take j).filter (fun f=>LuteHand.reaches p f s.halt_.fret)/\H2 R=some (.lst (fv rs))/\Same H' H2) ⟨[],rfl,ac,Same.new (Same.refl H') hR⟩ (fun j H2 _ _=>gF.tab.sq _) ?_ ?_
   ·rintro j x H2 hx ⟨rs,ers,e1,e2⟩
    unfold fv at hx
    rw[List.getElem?_map] at hx
    obtain⟨n,hn,rfl⟩:=Option.map_eq_some_iff.mp hx
    have hn4:1<=n/\n<=4:=by
     have:=List.mem_of_getElem? hn
     simp at this
     omega
    refine⟨rfl,_,rfl,_,rfl,_,rfl,p,n,s.halt_.fret,rfl,hn4.1,hn4.2,_,rfl,?_⟩
    have ef:=eB (fun f=>LuteHand.reaches p f s.halt_.fret) hn
    refine ite2 (fun q=>?_) fun q=>?_
    ·rw[if_pos q] at ef
     refine⟨_,rfl,_,e1,?_,_,ef.symm,?_,fun c o e=>by rw[ai (af e hR)];exact e2 c o e⟩
     ·rw[ers]
      simp only[fv,List.length_map]
      exact Nat.lt_of_le_of_lt (List.length_filter_le _ _) (Nat.lt_of_le_of_lt (by rw[List.length_take];exact Nat.min_le_right _ _) (by decide:([1,2,3,4]:List Nat).length<sizeLine))
     ·rw[ac,ers]
      simp[fv]
    ·rw[if_neg q,List.append_nil] at ef
     exact⟨rs,by rw[ers,← ef],e1,e2⟩
   ·rintro H2 ⟨rs,ers,e1,e2⟩
    have ers':rs=reach4 p s.halt_.fret:=ers
    have hrl:rs.length<=4:=by rw[ers'];exact List.length_filter_le _ _
    have g4':=g4.trans e2
    refine⟨Nat.zero_le _,fun lg hlg=>?_⟩
    have hlgn:H lg=none:=g4'.free hlg
    have sB:Same H2 (upd H2 lg (.lst [])):=Same.new (Same.refl H2) hlg
    have hbl:bg≠lg:=af (e2 _ _ g2) hlg
    have hRl:R≠lg:=af e1 hlg
    refine⟨_,rfl,bg,rfl,⟨_,SqL.of (sB _ _ (e2 _ _ g2))⟩,cg (K:=K) (a:=bg) (xs:=vs) (fun j σ H3=>∃(v7 v8:Option V) (us:List V),σ=[some (.ref sp),some (.int (p:Nat)),some (.ref bg),some (.int ((LM.pr s).1:Nat)),some (.int ((LM.pr s).2:Nat)),some (.ref R),some (.ref lg),v7,v8]/\H3 lg=some (.lst us)/\Paired (FingAt H3) us ((G.take j).flatMap (LM.more p (h.take i) s))/\us.length<=4 * j/\Same H2 H3)
     ⟨v7,v8,[],rfl,ac,.nil,Nat.zero_le _,sB⟩ (fun j σ H3 _ ⟨_,_,_,_,_,_,_,h9⟩=>SqL.of (h9 _ _ (e2 _ _ g2))) ?_ ?_⟩
    ·rintro j v σ H3 hv ⟨v7,v8,us,rfl,q1,q2,q3,q4⟩
     obtain⟨l,hl,fa,rfl,hfa⟩:=aI g3 hv
     have hll:=hGl l (List.mem_of_getElem? hl)
     have hjG:=(List.getElem?_eq_some_iff.mp hl).1
     have hfa3:H3 fa=some (.tup (fv l)):=q4 _ _ (e2 _ _ hfa)
     refine⟨_,rfl,R,rfl,⟨_,SqL.of (q4 _ _ e1)⟩,cg (K:=K) (a:=R) (xs:=fv rs) (fun r σ H4=>∃(v8:Option V) (us:List V),σ=[some (.ref sp),some (.int (p:Nat)),some (.ref bg),some (.int ((LM.pr s).1:Nat)),some (.int ((LM.pr s).2:Nat)),some (.ref R),some (.ref lg),some (.ref fa),v8]/\H4 lg=some (.lst us)/\Paired (FingAt H4) us ((G.take j).flatMap (LM.more p (h.take i) s)++(((rs.take r).filter fun f=>(LM.pairs (h.take i) l).all fun y=>LuteHand.together y (s.halt_,f)).map fun f=>l++[f]))/\us.length<=4 * j+r/\Same H2 H4)
      ⟨v8,us,rfl,q1,by simpa using q2,by omega,q4⟩ (fun r σ H4 _ ⟨_,_,_,_,_,_,h9⟩=>SqL.of (h9 _ _ e1)) ?_ ?_⟩
     ·rintro r x σ H4 hx ⟨v8,us,rfl,p1,p2,p3,p4⟩
      unfold fv at hx
      rw[List.getElem?_map] at hx
      obtain⟨n,hn,rfl⟩:=Option.map_eq_some_iff.mp hx
      have hr4:=(List.getElem?_eq_some_iff.mp hn).1
      have hfa4:H4 fa=some (.tup (fv l)):=p4 _ _ (e2 _ _ hfa)
      refine⟨_,rfl,_,rfl,_,rfl,sp,fa,h.map LM.pr,l,LM.pr s,n,rfl,hst0.same (g4'.trans p4),hfa4,by rw[hll,List.getElem?_map,hs];rfl,by omega,fun H5 s5=>?_⟩
      rw[vK hs hll]
      have ef:=eB (fun f=>(LM.pairs (h.take i) l).all fun y=>LuteHand.together y (s.halt_,f)) hn
      refine⟨_,rfl,ite2 (fun q=>?_) fun q=>?_⟩
      ·rw[if_pos q] at ef
       have p1':=s5 _ _ p1
       refine⟨_,rfl,.inl ⟨rfl,_,SqL.of p1'⟩,_,rfl,_,rfl,by show 1<=sizeLine;decide,fun t ht=>?_⟩
       have s6:Same H5 (upd H5 t (.tup [.int (n:Nat)])):=Same.new (Same.refl H5) ht
       refine⟨fa,t,fv l,[.int (n:Nat)],rfl,rfl,SqT.of (s6 _ _ (s5 _ _ hfa4)),SqT.of ac,by simp,?_,?_,?_⟩
       ·simp only[fv,List.length_map,List.length_cons,List.length_nil]
        exact Nat.le_trans (by omega:l.length+(0+1)<=7) (by decide)
       ·intro hnil
        have l0:l=[]:=by simpa[fv] using hnil
        have lt:lg≠t:=af p1' ht
        refine⟨lg,us,_,rfl,rfl,s6 _ _ p1',?_,_,us++[.ref t],rfl,ac,?_,by simp;omega,?_⟩
        ·exact Nat.lt_of_le_of_lt p3 (Nat.lt_of_le_of_lt (by omega:4 * j+r<=20000) (by decide))
        ·rw[ef,List.map_append,← List.append_assoc]
         refine aV (bM (bx (s6 _ _ p1')) (bM (Same.tup (s5.trans s6)) p2)) ⟨t,rfl,?_⟩
         rw[ai (Ne.symm lt),ac,l0]
         rfl
        ·intro c o e
         rw[ai (af e hlg)]
         exact s6 _ _ (s5 _ _ (p4 c o e))
       ·intro _ t2 ht2
        have s7:=s6.new (o:=.tup (fv l++[.int (n:Nat)])) ht2
        have lt:lg≠t2:=af (s6 _ _ p1') ht2
        refine⟨lg,us,_,rfl,rfl,s7 _ _ p1',?_,_,us++[.ref t2],rfl,ac,?_,by simp;omega,?_⟩
        ·exact Nat.lt_of_le_of_lt p3 (Nat.lt_of_le_of_lt (by omega:4 * j+r<=20000) (by decide))
        ·rw[ef,List.map_append,← List.append_assoc]
         refine aV (bM (bx (s7 _ _ p1')) (bM (Same.tup (s5.trans s7)) p2)) ⟨t2,rfl,?_⟩
         rw[ai (Ne.symm lt),ac]
         simp[fv]
        ·intro c o e
         rw[ai (af e hlg)]
         exact s7 _ _ (s5 _ _ (p4 c o e))
      ·rw[if_neg q,List.append_nil] at ef
       refine⟨_,us,rfl,s5 _ _ p1,?_,by omega,p4.trans s5⟩
       rw[ef]
       exact bM (Same.tup s5) p2
     ·rintro σ H4 ⟨v8,us,rfl,p1,p2,p3,p4⟩
      have el:(fv rs).length=rs.length:=by simp[fv]
      rw[el,List.take_length] at p2
      rw[el] at p3
      refine⟨_,_,us,rfl,p1,?_,by omega,p4⟩
      rw[aT hl,List.flatMap_append,List.flatMap_cons,List.flatMap_nil,List.append_nil,w6,← ers']
      exact p2
    ·rintro σ H3 ⟨v7,v8,us,rfl,q1,q2,q3,q4⟩
     have eG:G.take vs.length=G:=by rw[g3.length];exact List.take_length
     rw[eG] at q2
     refine⟨_,rfl,lg,_,_,_,_,_,_,us,rfl,hlgn,q1,?_,g4'.trans q4⟩
     rw[htk,LM.gripsAt_snoc,hG]
     exact q2
  ·rintro σ H' ⟨bg,v3,v4,v5,v6,v7,v8,vs,rfl,g1,g2,g3,g4⟩
   have e0:h.take sv.length=h:=by rw[hs2.length,List.length_map];exact List.take_length
   rw[e0] at g3
   exact⟨_,rfl,k H' bg g4 g1 ⟨vs,g2,g3⟩⟩
abbrev bL:Stmt:=top 8
abbrev pN:List Str:=["stops","found","position","fingers"]
def iN:Sp:=fun vs H Q _=>∃(sp:Addr) (h:List LuteHand.Held),vs=[.ref sp]/\StopsAt H sp (h.map LM.pr)/\h.length<=6/\∀H' q,Same H H'->H q=none->GripsAt H' q (LuteHand.grips h)->Q (.ref q) H'
theorem scFindGrips:FnScope pN ["stops"] (ad bL):=⟨rfl,rfl,rfl,by decide +kernel,rfl,by decide +kernel,by decide +kernel⟩
def upto (h:List LuteHand.Held) (n:Nat):List LuteHand.Grip:=(List.range n).flatMap fun i=>(LM.gripsAt (i+1) h).map fun l=>(⟨i+1,l⟩:LuteHand.Grip)
theorem rK (h:List LuteHand.Held) (n:Nat):upto h (n+1)=upto h n++(LM.gripsAt (n+1) h).map fun l=>(⟨n+1,l⟩:LuteHand.Grip):=by
 unfold upto
 rw[List.range_succ,List.flatMap_append,List.flatMap_cons,List.flatMap_nil,List.append_nil]
theorem mJ {f0 fF:Addr}{fd fdF:FuncData} (D:Df K mg "find_grips" bL ["stops"] f0 fd) (DF:Df K mg "fingerings" dS ["stops","position"] fF fdF) (GF:FnOk P w K mg base CX0 4 fF fdF ["stops","position"] qD) (gP:GV mg "LAST_POSITION" (.int 15)) (gR:mg "range" = none) :
  FnOk P w K mg base CX0 5 f0 fd ["stops"] iN:=by
 refine D.fn.ok scFindGrips (fun vs H Q E h=>?_) (fun cdv A outer s0 H vs Q E hr h=>?_)
 ·obtain⟨_,_,rfl,_⟩:=h
  rfl
 ·obtain⟨sp,h,rfl,hst,hlen,k⟩:=h
  refine⟨_,ae (aG (i:=1) scFindGrips.nd rfl (Or.inl rfl) (bn ag))
   (ae (br PassesOwn.never rfl (sk rfl gR (aa ao (aa (bb cj (bc gP rfl) ao) ag))) (aD (i:=2) scFindGrips.nd rfl (Or.inl rfl))
    (ah (br PassesOwn.never rfl (bo (aE GF hr rfl DF.at_ DF.fn.kp DF.b .nil pass0 (aa (pv 0) (aa (pv 2) ag)))) (aD (i:=3) scFindGrips.nd rfl (Or.inl rfl))
     (ah (cu (cS F.plainAttrs_list F.slot_list_append F.type_list_append bE (pv 1) (aa (bW (aa (pv 2) (aa (pv 3) ag))) ag)))))))
   (ah (aA (pv 1)))),?_⟩
  refine⟨Nat.zero_le _,fun q hq=>?_⟩
  refine⟨_,_,rfl,rfl,1,16,rfl,⟨by decide,by decide,by decide,by decide⟩,tJ (lo:=1) (n:=15) (fun i σ H'=>∃(v2 v3:Option V) (vs:List V),σ=[some (.ref sp),some (.ref q),v2,v3]/\H' q=some (.lst vs)/\Paired (GripAt H') vs (upto h i)/\vs.length<=4096 * i/\Same H H')
   ⟨none,none,[],rfl,ac,.nil,Nat.zero_le _,Same.new (Same.refl H) hq⟩ ?_ ?_⟩
  ·rintro i σ H' hi ⟨v2,v3,vs,rfl,g1,g2,g3,g4⟩
   have ei:(1:Int)+(i:Nat)=((i+1:Nat):Int):=by omega
   rw[ei]
   refine⟨_,rfl,_,rfl,sp,i+1,h,rfl,hst.same g4,hlen,fun H2 fl s2 hfl ⟨us,u1,u2⟩=>?_⟩
   have hcnt:(LM.gripsAt (i+1) h).length<=4096:=LM.gripsAt_count hlen
   have hus:=u2.length
   have hflq:q≠fl:=af g1 hfl
   refine⟨fl,rfl,⟨_,SqL.of u1⟩,cg (K:=K) (a:=fl) (xs:=us) (fun j σ H3=>∃(v3:Option V) (vs:List V),σ=[some (.ref sp),some (.ref q),some (.int ((i+1:Nat):Int)),v3]/\H3 q=some (.lst vs)/\Paired (GripAt H3) vs (upto h i++((LM.gripsAt (i+1) h).take j).map fun l=>(⟨i+1,l⟩:LuteHand.Grip))/\vs.length<=4096 * i+j/\Same H H3/\H3 fl=some (.lst us)/\Paired (FingAt H3) us (LM.gripsAt (i+1) h))
    ⟨v3,vs,rfl,s2 _ _ g1,by simpa using cG (Same.tup s2) g2,by omega,g4.trans s2,u1,u2⟩ (fun j σ H3 _ ⟨_,_,_,_,_,_,_,h9,_⟩=>SqL.of h9) ?_ ?_⟩
   ·rintro j v σ H3 hv ⟨v3,vs,rfl,p1,p2,p3,p4,p5,p6⟩
    obtain⟨l,hl,fa,rfl,hfa⟩:=aI p6 hv
    have hj:=(List.getElem?_eq_some_iff.mp hl).1
    refine⟨_,rfl,.inl ⟨rfl,_,SqL.of p1⟩,_,rfl,_,rfl,by show 2<=sizeLine;decide,fun t ht=>?_⟩
    have s4:Same H3 (upd H3 t (.tup [.int ((i+1:Nat):Int),.ref fa])):=Same.new (Same.refl H3) ht
    have qt:q≠t:=af p1 ht
    refine⟨q,vs,_,rfl,rfl,s4 _ _ p1,Nat.lt_of_le_of_lt p3 (Nat.lt_of_le_of_lt (by omega:4096 * i+j<=70000) (by decide)),?_⟩
    have st:=bx (zs:=vs++[.ref t]) (s4 _ _ p1)
    refine⟨_,vs++[.ref t],rfl,ac,?_,by simp;omega,?_,?_,bM st (bM (Same.tup s4) p6)⟩
    ·rw[aT hl,List.map_append,← List.append_assoc]
     refine aV (cG st (cG (Same.tup s4) p2)) ⟨t,fa,rfl,?_,?_⟩
     ·rw[ai (Ne.symm qt),ac]
     ·exact st _ _ (s4 _ _ hfa)
    ·intro c o e
     rw[ai (af e hq)]
     exact (p4.new ht) c o e
    ·rw[ai (Ne.symm hflq)]
     exact s4 _ _ p5
   ·rintro σ H3 ⟨v3,vs,rfl,p1,p2,p3,p4,p5,p6⟩
    rw[hus,List.take_length,← rK] at p2
    exact⟨_,_,vs,rfl,p1,p2,by omega,p4⟩
  ·rintro σ H' ⟨v2,v3,vs,rfl,g1,g2,g3,g4⟩
   refine⟨_,rfl,k H' q g4 hq ⟨vs,g1,?_⟩⟩
   rw[LM.grips_at]
   exact g2
end
def rm (fs:List Nat):PyData:=.tuple (fs.map fun (n:Nat)=>PyData.int (n:Nat))
def dN (g:LuteHand.Grip):PyData:=.tuple [.int (g.pos:Nat),rm g.fingers]
theorem oP {K:W.Frag}{H:Hp}:∀fs:List Nat,DpAll K H (fv fs) (fs.map fun (n:Nat)=>PyData.int (n:Nat))
 | []=>.nil
 | n::fs=>.cons (.int _) (oP fs)
theorem rq {K:W.Frag}{H:Hp}{v:V}{g:LuteHand.Grip} (h:GripAt H v g):Dp K H v (dN g):=by
 obtain⟨a,fa,rfl,h1,h2⟩:=h
 exact .tup (SqT.of h1) (.cons (.int _) (.cons (.tup (SqT.of h2) (oP _)) .nil))
theorem lJ:∀fs:List Nat,PyData.canLayAll0 (fs.map fun (n:Nat)=>PyData.int (n:Nat))=true
 | []=>by simp[PyData.canLayAll0]
 | n::fs=>by simp[PyData.canLayAll0,PyData.canLay0,lJ fs]
theorem lU:∀fs:List Nat,PyData.depthAll (fs.map fun (n:Nat)=>PyData.int (n:Nat))<=1
 | []=>by simp[PyData.depthAll]
 | n::fs=>by
  have:=lU fs
  simp only[List.map_cons,PyData.depthAll,PyData.depth]
  omega
theorem vQ (g:LuteHand.Grip):PyData.depth (dN g)<=4:=by
 have:=lU g.fingers
 simp only[dN,rm,PyData.depth,PyData.depthAll]
 omega
abbrev dQ:Stmt:=top 10
abbrev vm:List Str:=["ties","grip","later_grip","before","now"]
def vz (ts:List (Nat×Nat)) (g e:LuteHand.Grip):Bool:=ts.all fun t=>g.fingers[t.1]?==e.fingers[t.2]?
def qA:Sp:=fun vs H Q _=>∃(tp:Addr) (gv ev:V) (ts:List (Nat×Nat)) (g e:LuteHand.Grip),vs=[.ref tp,gv,ev]/\StopsAt H tp ts/\GripAt H gv g/\GripAt H ev e/\(∀t∈ts,t.1<g.fingers.length/\t.2<e.fingers.length)/\ts.length<=15/\∀H',Same H H'->Q (.bl (vz ts g e)) H'
section
variable {P:Program}{w:World}{K:W.Frag}{mg:Str->Option Value}{base:Heap}
theorem scKeeps:FnScope vm ["ties","grip","later_grip"] (ad dQ):=⟨rfl,rfl,rfl,by decide +kernel,rfl,by decide +kernel,by decide +kernel⟩
theorem xO {fs:List Nat}{i:Nat} (h:i<fs.length):atI (fv fs) ((i:Nat):Int)=some (.int ((fs[i]:Nat):Int)):=az (by simp[fv,h])
theorem vb {f0:Addr}{fd:FuncData} (D:Df K mg "keeps_fingers" dQ ["ties","grip","later_grip"] f0 fd) (gA:mg "all" = none):FnOk P w K mg base CX0 2 f0 fd ["ties","grip","later_grip"] qA:=by
 refine D.fn.ok scKeeps (fun vs H Q E h=>?_) (fun cdv A outer s0 H vs Q E hr h=>?_)
 ·obtain⟨_,_,_,_,_,_,rfl,_⟩:=h
  rfl
 ·obtain⟨tp,_,_,ts,g,e,rfl,⟨tv,ht1,ht2⟩,⟨ga,gf,rfl,hg1,hg2⟩,⟨ea,ef,rfl,he1,he2⟩,hin,hlen,k⟩:=h
  refine⟨_,ah (aA (aR (qb rfl) (by rfl) gA boot_all (aa (jJ (g:=tG K 2 (eq (cH 3) (eq (cH 4) tH))) (te:=tOp rEq (tOp (sf K) (tOp (sf K) (jb 1) (tC (.int 1))) (jb 3)) (tOp (sf K) (tOp (sf K) (jb 2) (tC (.int 1))) (jb 4))) (own:=[("before",3),("now",4)]) rfl scKeeps.nd (bo (pv 0)) (BlkOk.mk (N:=vm) (sc:=ad dQ) rfl (by decide +kernel) (by decide +kernel) (by decide +kernel) (by decide +kernel))
    (fun _ _ _ _ _=>bV (n:=2) rfl (aO (aD (i:=3) scKeeps.nd rfl (Or.inl rfl)) (aO (aD (i:=4) scKeeps.nd rfl (Or.inl rfl)) bD))) (fun _ _ _ _ _=>cr)
    (fun _ _ _ _ _=>bI bz (aJ aX (aJ aX (pv 1) ao (fun _ _=>rfl)) (pv 3) (fun _ _=>rfl)) (aJ aX (aJ aX (pv 2) ao (fun _ _=>rfl)) (pv 4) (fun _ _=>rfl)) (nomark _))) ag))),?_⟩
  refine⟨_,rfl,tp,rfl,⟨_,SqL.of ht1⟩,fun R hR=>?_⟩
  refine dE (K:=K) (a:=tp) (xs:=tv) (fun i H2=>H2 R=some (.lst ((ts.take i).map fun t=>V.bl (g.fingers[t.1]?==e.fingers[t.2]?)))/\Same H H2) ⟨ac,Same.new (Same.refl H) hR⟩ (fun i H2 _ h2=>SqL.of (h2.2 _ _ ht1)) ?_ ?_
  ·rintro i v H2 hv ⟨h1,h2⟩
   obtain⟨t,ht,a,rfl,ha⟩:=aI ht2 hv
   obtain⟨l1,l2⟩:=hin t (List.mem_of_getElem? ht)
   refine⟨a,_,rfl,SqT.of (h2 _ _ ha),rfl,_,_,rfl,_,_,rfl,rfl,rfl,mn ?_⟩
   refine⟨_,rfl,ga,_,_,_,rfl,rfl,SqT.of (h2 _ _ hg1),az (j:=1) rfl,_,rfl,gf,_,_,_,rfl,rfl,SqT.of (h2 _ _ hg2),xO l1,?_⟩
   refine⟨_,rfl,ea,_,_,_,rfl,rfl,SqT.of (h2 _ _ he1),az (j:=1) rfl,_,rfl,ef,_,_,_,rfl,rfl,SqT.of (h2 _ _ he2),xO l2,rfl,?_⟩
   refine⟨_,h1,?_,?_,fun c o q=>by rw[ai (af q hR)];exact h2 c o q⟩
   ·rw[List.length_map,List.length_take]
    exact Nat.lt_of_le_of_lt (Nat.min_le_right _ _) (Nat.lt_of_le_of_lt hlen (by decide))
   ·rw[ac,aT ht,List.map_append,bJ]
    have ee:decide (g.fingers[t.1]=e.fingers[t.2])=(g.fingers[t.1]?==e.fingers[t.2]?):=by
     rw[List.getElem?_eq_getElem l1,List.getElem?_eq_getElem l2,Bool.eq_iff_iff]
     simp
    rw[ee]
    rfl
  ·rintro H2 ⟨h1,h2⟩
   rw[ht2.length,List.take_length] at h1
   refine⟨R,ts.map fun t=>g.fingers[t.1]?==e.fingers[t.2]?,rfl,SqL.of (by rw[h1,List.map_map];rfl),?_⟩
   have e1:(ts.map fun t=>g.fingers[t.1]?==e.fingers[t.2]?).all id=vz ts g e:=by
    rw[List.all_map]
    rfl
   rw[e1]
   exact k _ h2
theorem ub (b h:List LuteHand.Held):(LM.ties b h).length<=h.length:=by
 unfold LM.ties
 refine Nat.le_trans (List.length_filterMap_le _ _) ?_
 simp
end
structure WAt (K:W.Frag) (H:Hp) (wp:Addr) (ws:List Nat):Prop where
 sq:SqL K H wp (fv ws)
 len:ws.length=9
 few:∀x∈ws,x<=255
theorem WAt.same {K:W.Frag}{H H':Hp}{wp:Addr}{ws:List Nat} (s:Same H H') (h:WAt K H wp ws):WAt K H' wp ws:=⟨s.seq h.sq,h.len,h.few⟩
theorem WAt.at_ {K:W.Frag}{H:Hp}{wp:Addr}{ws:List Nat} (h:WAt K H wp ws) {i:Nat} (hi:i<9):atI (fv ws) ((i:Nat):Int)=some (.int ((LuteHand.weight ws i:Nat):Int)):=by
 refine az ?_
 have hl:=h.len
 unfold fv LuteHand.weight
 rw[List.getElem?_map,List.getD_eq_getElem?_getD,List.getElem?_eq_getElem (by omega)]
 rfl
theorem WAt.le {K:W.Frag}{H:Hp}{wp:Addr}{ws:List Nat} (h:WAt K H wp ws) (i:Nat):LuteHand.weight ws i<=255:=by
 unfold LuteHand.weight
 rw[List.getD_eq_getElem?_getD]
 cases e:ws[i]? with
 | none=>exact Nat.zero_le _
 | some x=>exact h.few x (List.mem_of_getElem? e)
theorem WAt.mul {K:W.Frag}{H:Hp}{wp:Addr}{ws:List Nat} (h:WAt K H wp ws) (i:Nat) (y:Int):CMul ((LuteHand.weight ws i:Nat):Int) y:=by
 have:=h.le i
 exact .inl ⟨by omega,by omega⟩
abbrev fE:Stmt:=top 17
abbrev ik:List Str:=["grip","w"]
def qv (K:W.Frag):Sp:=fun vs H Q _=>∃(gv:V) (wp:Addr) (g:LuteHand.Grip) (ws:List Nat),vs=[gv,.ref wp]/\GripAt H gv g/\WAt K H wp ws/\1<=g.pos/\Q (.int ((LuteHand.weight ws 8 * (g.pos-1):Nat):Int)) H
section
variable {P:Program}{w:World}{K:W.Frag}{mg:Str->Option Value}{base:Heap}
theorem wn:FnScope ik ik (ad fE):=⟨rfl,rfl,rfl,by decide +kernel,rfl,by decide +kernel,by decide +kernel⟩
theorem uX {f0:Addr}{fd:FuncData} (D:Df K mg "starting_cost" fE ik f0 fd) (gS:GV mg "START" (.int 8)):FnOk P w K mg base CX0 1 f0 fd ik (qv K):=by
 refine D.fn.ok wn (fun vs H Q E h=>?_) (fun cdv A outer s0 H vs Q E hr h=>?_)
 ·obtain⟨_,_,_,_,rfl,_⟩:=h
  rfl
 ·obtain⟨_,wp,g,ws,rfl,⟨ga,gf,rfl,hg1,hg2⟩,W,hp,k⟩:=h
  refine⟨_,ah (aA (bb mI (aJ aY (pv 1) (bc gS rfl) (fun _ _=>rfl)) (bb cZ (aJ aX (pv 0) ao (fun _ _=>rfl)) ao))),?_⟩
  refine⟨_,rfl,wp,_,_,_,rfl,rfl,W.sq,W.at_ (i:=8) (by decide),_,rfl,ga,_,_,_,rfl,rfl,SqT.of hg1,az (j:=0) rfl,_,_,rfl,rfl,_,_,rfl,rfl,W.mul 8 _,?_⟩
  have e:((LuteHand.weight ws 8:Nat):Int) * ((g.pos:Int)-1)=((LuteHand.weight ws 8 * (g.pos-1):Nat):Int):=by
   rw[Int.natCast_mul,Int.natCast_sub hp]
   rfl
  rw[← e] at k
  exact k
abbrev bU:Stmt:=top 18
abbrev sQ:List Str:=["stops","grip","w","cost","finger","fret"]
def jz (K:W.Frag):Sp:=fun vs H Q _=>∃(sp:Addr) (gv:V) (wp:Addr) (h:List LuteHand.Held) (g:LuteHand.Grip) (ws:List Nat),vs=[.ref sp,gv,.ref wp]/\StopsAt H sp (h.map LM.pr)/\GripAt H gv g/\WAt K H wp ws/\g.ok h=true/\Q (.int ((LuteHand.gripCost ws h g:Nat):Int)) H
theorem scGripCost:FnScope sQ ["stops","grip","w"] (ad bU):=⟨rfl,rfl,rfl,by decide +kernel,rfl,by decide +kernel,by decide +kernel⟩
theorem o9 (a b:Nat):(if ((a:Int)-(b:Nat))<0 then -((a:Int)-(b:Nat)) else ((a:Int)-(b:Nat)))=((LuteHand.diff a b:Nat):Int):=by
 unfold LuteHand.diff
 split <;> omega
theorem nn (l:List Nat) (a:Nat):(l++[a]).sum=l.sum+a:=by
 induction l with
 | nil=>simp
 | cons b l ih=>rw[List.cons_append,List.sum_cons,List.sum_cons,ih];omega
theorem lW (c:Nat):∀l:List Nat,(fv l).countP (fun z=>eqV z (.int (c:Nat)))=l.count c
 | []=>rfl
 | a::l=>by
  have ih:=lW c l
  unfold fv at ih ⊢
  rw[List.map_cons,List.countP_cons,List.count_cons,ih]
  congr 1
  show (if (((a:Nat):Int)==(c:Int))=true then 1 else 0)=_
  have:(((a:Nat):Int)==(c:Int))=(a==c):=by
   rw[Bool.eq_iff_iff,beq_iff_eq,beq_iff_eq]
   constructor <;> intro q <;> omega
  rw[this]
theorem nV {f0 aF:Addr}{fd:FuncData} (D:Df K mg "grip_cost" bU ["stops","grip","w"] f0 fd) (gF:GT K mg "FINGERS" (fv [1,2,3,4]) aF) (gS:GV mg "STRETCH" (.int 5)) (gB:GV mg "BARRE_FINGER" (.int 1)) (gW:GV mg "BARRE" (.int 6)) (gA:mg "abs" = none) :
  FnOk P w K mg base CX0 1 f0 fd ["stops","grip","w"] (jz K):=by
 refine D.fn.ok scGripCost (fun vs H Q E h=>?_) (fun cdv A outer s0 H vs Q E hr h=>?_)
 ·obtain⟨_,_,_,_,_,_,rfl,_⟩:=h
  rfl
 ·obtain⟨sp,_,wp,h,g,ws,rfl,⟨sv,hs1,hs2⟩,⟨ga,gf,rfl,hg1,hg2⟩,W,ok,k⟩:=h
  rw[LM.grip_cost ok] at k
  obtain⟨o1,o2,o3,o4⟩:=LM.ok_all ok
  refine⟨_,ae (aG (i:=3) scGripCost.nd rfl (Or.inl rfl) ao)
   (ae (br PassesOwn.never rfl (pA (dM gF rfl)) (aD (i:=4) scGripCost.nd rfl (Or.inl rfl))
    (ah (aM (aq df (pv 4) (aJ aX (pv 1) ao (fun _ _=>rfl)) rfl)
     (ae (aG (i:=5) scGripCost.nd rfl (Or.inl rfl) (aJ aX (aJ aY (pv 0) (uS F.slot_tuple_index F.type_tuple_index di (aJ aX (pv 1) ao (fun _ _=>rfl)) (aa (pv 4) ag)) (fun _ _=>rfl)) ao (fun _ _=>rfl)))
     (ah (jH (i:=3) scGripCost.nd rfl (Or.inl rfl) (bb cj (aJ aY (pv 2) (pv 4) (fun _ _=>rfl)) (bb mI (aJ aY (pv 2) (bc gS rfl) (fun _ _=>rfl)) (aR oZ (by rfl) gA boot_abs (aa (bb cZ (pv 5) (bb cZ (bb cj (aJ aX (pv 1) ao (fun _ _=>rfl)) (pv 4)) ao)) ag)))) ke))) aw)))
   (ae (aM (aq dg (uS F.slot_tuple_count F.type_tuple_count sS (aJ aX (pv 1) ao (fun _ _=>rfl)) (aa (bc gB rfl) ag)) ao (nomark _)) (ah (jH (i:=3) scGripCost.nd rfl (Or.inl rfl) (aJ aY (pv 2) (bc gW rfl) (fun _ _=>rfl)) ke)) aw)
   (ah (aA (pv 3))))),?_⟩
  refine⟨aF,rfl,⟨_,gF.tab.sq _⟩,rh (K:=K) (a:=aF) (xs:=fv [1,2,3,4]) (fun j σ H'=>∃v4 v5,σ=[some (.ref sp),some (.ref ga),some (.ref wp),some (.int (((([1,2,3,4]:List Nat).take j).map (LM.fingC ws g h)).sum:Nat)),v4,v5]/\H'=H) ⟨none,none,rfl,rfl⟩ (fun _ _ _ _ _=>gF.tab.sq _) ?_ ?_⟩
  ·rintro j x σ H' hx ⟨v4,v5,rfl,rfl⟩
   unfold fv at hx
   rw[List.getElem?_map] at hx
   obtain⟨n,hn,rfl⟩:=Option.map_eq_some_iff.mp hx
   have hn4:1<=n/\n<=4:=by
    have:=List.mem_of_getElem? hn
    simp at this
    omega
   have esum:((([1,2,3,4]:List Nat).take (j+1)).map (LM.fingC ws g h)).sum=((([1,2,3,4]:List Nat).take j).map (LM.fingC ws g h)).sum+LM.fingC ws g h n:=by
    rw[aT hn,List.map_append]
    exact nn _ _
   refine⟨_,rfl,_,rfl,ga,_,_,_,rfl,rfl,SqT.of hg1,az (j:=1) rfl,gf,_,rfl,.inr (SqT.of hg2),rfl,cy _,_,rfl,?_⟩
   rw[if_neg (by simp)]
   have ein:inV (.int (n:Nat)) (fv g.fingers)=decide (n∈g.fingers):=gQ n g.fingers
   rw[ein]
   refine ite2 (fun z=>?_) fun z=>?_
   ·have hm:n∈g.fingers:=of_decide_eq_true z
    have hidx:=LM.idxOf_at hm
    have hil:=(List.getElem?_eq_some_iff.mp hidx).1
    have hil':g.fingers.idxOf n<h.length:=by omega
    obtain⟨v,hv⟩:∃v,sv[g.fingers.idxOf n]?=some v:=⟨_,List.getElem?_eq_getElem (by rw[hs2.length,List.length_map];exact hil')⟩
    obtain⟨y,hy,sa,rfl,hsa⟩:=aI hs2 hv
    refine⟨_,rfl,_,rfl,ga,_,_,_,rfl,rfl,SqT.of hg1,az (j:=1) rfl,⟨gf,_,rfl,hg2⟩,_,rfl,?_⟩
    refine⟨gf,fv g.fingers,_,g.fingers.idxOf n,.int (n:Nat),rfl,rfl,SqT.of hg2,rfl,cy _,by simp[fv,hidx],by simp[eqV],?_,?_⟩
    ·intro m z' hm' hz'
     unfold fv at hz'
     rw[List.getElem?_map] at hz'
     obtain⟨c,hc,rfl⟩:=Option.map_eq_some_iff.mp hz'
     have:=dF hm'
     rw[hc] at this
     show (((c:Nat):Int)==(n:Int))=false
     simp
     intro q
     exact this (by rw[show c=n by omega])
    refine⟨sp,_,_,_,rfl,rfl,SqL.of hs1,az hv,sa,_,_,_,rfl,rfl,SqT.of hsa,az (j:=1) rfl,?_⟩
    refine⟨_,rfl,_,rfl,_,rfl,wp,_,_,_,rfl,rfl,W.sq,W.at_ (i:=n) (by omega),_,rfl,wp,_,_,_,rfl,rfl,W.sq,W.at_ (i:=5) (by decide),_,rfl,_,rfl,ga,_,_,_,rfl,rfl,SqT.of hg1,az (j:=0) rfl,_,rfl,_,_,rfl,rfl,_,_,rfl,rfl,_,_,rfl,rfl,_,rfl,_,_,rfl,rfl,W.mul 5 _,_,_,rfl,rfl,_,_,rfl,rfl,?_⟩
    refine⟨some (.int (n:Nat)),some (.int (y.2:Nat)),?_,rfl⟩
    have ef:LM.fingC ws g h n=LuteHand.weight ws n+LuteHand.weight ws 5 * LuteHand.diff y.2 (g.pos+n-1):=by
     unfold LM.fingC
     rw[if_pos hm,hy]
     rfl
    rw[esum,ef]
    have ea:((y.2:Nat):Int)-((g.pos:Int)+(n:Nat)-1)=((y.2:Nat):Int)-((g.pos+n-1:Nat):Int):=by omega
    have eb:=o9 y.2 (g.pos+n-1)
    rw[← ea] at eb
    have ec:((((([1,2,3,4]:List Nat).take j).map (LM.fingC ws g h)).sum+(LuteHand.weight ws n+LuteHand.weight ws 5 * LuteHand.diff y.2 (g.pos+n-1)):Nat):Int)=((((([1,2,3,4]:List Nat).take j).map (LM.fingC ws g h)).sum:Nat):Int)+(((LuteHand.weight ws n:Nat):Int)+((LuteHand.weight ws 5:Nat):Int) * (if ((y.2:Nat):Int)-((g.pos:Int)+(n:Nat)-1)<0 then -(((y.2:Nat):Int)-((g.pos:Int)+(n:Nat)-1)) else ((y.2:Nat):Int)-((g.pos:Int)+(n:Nat)-1))):=by
     rw[eb,Int.natCast_add,Int.natCast_add,Int.natCast_mul]
    rw[ec]
    rfl
   ·have hm:¬n∈g.fingers:=fun q=>z (decide_eq_true q)
    have ef:LM.fingC ws g h n=0:=by
     unfold LM.fingC
     rw[if_neg hm]
    exact⟨some (.int (n:Nat)),v5,by rw[esum,ef,Nat.add_zero];rfl,rfl⟩
  ·rintro σ H' ⟨v4,v5,rfl,rfl⟩
   refine⟨_,rfl,ga,_,_,_,rfl,rfl,SqT.of hg1,az (j:=1) rfl,⟨gf,_,rfl,hg2⟩,gf,_,_,rfl,rfl,SqT.of hg2,rfl,cy _,_,_,rfl,rfl,_,rfl,?_⟩
   rw[show (fv g.fingers).countP (fun z=>eqV z (.int 1))=g.fingers.count 1 from lW 1 g.fingers]
   have eC:LM.gripC ws h g=((([1,2,3,4]:List Nat).take (fv [1,2,3,4]).length).map (LM.fingC ws g h)).sum+if 1<g.fingers.count 1 then LuteHand.weight ws 6 else 0:=rfl
   rw[eC] at k
   refine ite2 (fun z=>?_) fun z=>?_
   ·have z':(1:Int)<((g.fingers.count 1:Nat):Int):=of_decide_eq_true z
    rw[if_pos (by omega),Int.natCast_add] at k
    exact⟨_,rfl,_,rfl,wp,_,_,_,rfl,rfl,W.sq,W.at_ (i:=6) (by decide),_,_,rfl,rfl,_,rfl,k⟩
   ·have z':¬(1:Int)<((g.fingers.count 1:Nat):Int):=fun q=>z (decide_eq_true q)
    rw[if_neg (by omega),Nat.add_zero] at k
    exact⟨_,rfl,k⟩
end
theorem tj {K:W.Frag}{H:Hp}{p a:Addr}{l:List LM.St}{x:LM.St}{Q:VK} (h:StopsAt H p l) (ha:H a=some (.tup [.int (x.1:Nat),.int (x.2:Nat)])) (q:Q (.bl (decide (x∈l))) H):wu K (.ref a) (.ref p) H Q:=by
 obtain⟨vs,h1,h2⟩:=h
 obtain⟨as,e,hl,hat⟩:=fw h2
 subst e
 have back:∀c∈as,∃y,y∈l/\H c=some (.tup [.int (y.1:Nat),.int (y.2:Nat)]):=by
  intro c hc
  obtain⟨j,hj⟩:=List.mem_iff_getElem?.mp hc
  have hjl:=(List.getElem?_eq_some_iff.mp hj).1
  rw[hl] at hjl
  obtain⟨c',hc',hct⟩:=hat j _ (List.getElem?_eq_getElem hjl)
  rw[hj] at hc'
  cases hc'
  exact⟨_,List.getElem_mem hjl,hct⟩
 refine⟨p,as,kz H,fb x,rfl,SqL.of h1,fun c hc=>?_,jn ha,cP _,?_⟩
 ·obtain⟨y,_,hy⟩:=back c hc
  rw[cz hy]
  exact⟨jn hy,cP _⟩
 ·have e:(as.any fun c=>PyData.eqv (kz H c) (fb x))=decide (x∈l):=by
   rw[Bool.eq_iff_iff,List.any_eq_true,decide_eq_true_eq]
   constructor
   ·rintro⟨c,hc,ec⟩
    obtain⟨y,hy1,hy2⟩:=back c hc
    rw[cz hy2,gk] at ec
    rw[← of_decide_eq_true ec]
    exact hy1
   ·intro hx
    obtain⟨j,hj⟩:=List.mem_iff_getElem?.mp hx
    obtain⟨c,hc,hct⟩:=hat j x hj
    refine⟨c,List.mem_of_getElem? hc,?_⟩
    rw[cz hct,gk]
    simp
  rw[e]
  exact q
abbrev bY:Stmt:=top 19
abbrev nZ:List Str:=["finger","stops","fingers","stop","own"]
def lr:Sp:=fun vs H Q _=>∃(sp fp:Addr) (f:Nat) (L:List LM.St) (fs:List Nat),vs=[.int (f:Nat),.ref sp,.ref fp]/\StopsAt H sp L/\H fp=some (.tup (fv fs))/\fs.length<=15/\∀H' q,Same H H'->H q=none->StopsAt H' q (LM.own f L fs)->Q (.ref q) H'
section
variable {P:Program}{w:World}{K:W.Frag}{mg:Str->Option Value}{base:Heap}
theorem scStopped:FnScope nZ ["finger","stops","fingers"] (ad bY):=⟨rfl,rfl,rfl,by decide +kernel,rfl,by decide +kernel,by decide +kernel⟩
theorem pF {f0:Addr}{fd:FuncData} (D:Df K mg "stopped_by" bY ["finger","stops","fingers"] f0 fd) (gZ:mg "zip" = none):FnOk P w K mg base CX0 1 f0 fd ["finger","stops","fingers"] lr:=by
 refine D.fn.ok scStopped (fun vs H Q E h=>?_) (fun cdv A outer s0 H vs Q E hr h=>?_)
 ·obtain⟨_,_,_,_,_,rfl,_⟩:=h
  rfl
 ·obtain⟨sp,fp,f,L,fs,rfl,⟨sv,hs1,hs2⟩,hf,hlen,k⟩:=h
  refine⟨_,ah (aA (jJ (g:=tG K 2 (eq (cH 3) (eq (cH 4) tH))) (own:=[("stop",3),("own",4)]) rfl scStopped.nd (qM rfl gZ (aa (pv 1) (aa (pv 2) ag))) (BlkOk.mk (N:=nZ) (sc:=ad bY) rfl (by decide +kernel) (by decide +kernel) (by decide +kernel) (by decide +kernel))
    (fun _ _ _ _ _=>bV (n:=2) rfl (aO (aD (i:=3) scStopped.nd rfl (Or.inl rfl)) (aO (aD (i:=4) scStopped.nd rfl (Or.inl rfl)) bD))) (fun _ _ _ _ _=>mF (aq bz (pv 4) (pv 0) (nomark _)))
    (fun _ _ _ _ _=>pv 3))),?_⟩
  have hfl:(fv fs).length=fs.length:=by simp[fv]
  refine⟨_,rfl,_,rfl,sp,fp,_,_,rfl,SqL.of hs1,SqT.of hf,fun R hR=>?_⟩
  refine qY (K:=K) (a:=sp) (b:=fp) (xs:=sv) (ys:=fv fs) rfl (fun i H2=>∃us,H2 R=some (.lst us)/\Paired (StopAt H2) us ((((L.zip fs).take i).filter fun x=>x.2==f).map fun x=>x.1)/\us.length<=i/\Same H H2) ⟨[],ac,.nil,Nat.le_refl _,Same.new (Same.refl H) hR⟩ (fun i H2 ⟨_,_,_,_,h2⟩=>⟨SqL.of (h2 _ _ hs1),SqT.of (h2 _ _ hf)⟩) ?_ ?_
  ·rintro i v u H2 t hv hu ⟨us,h1,h3,h4,h2⟩ ht
   obtain⟨y,hy,a,rfl,ha⟩:=aI hs2 hv
   unfold fv at hu
   rw[List.getElem?_map] at hu
   obtain⟨fi,hfi,rfl⟩:=Option.map_eq_some_iff.mp hu
   have hil:=(List.getElem?_eq_some_iff.mp hfi).1
   have s3:Same H2 (upd H2 t (.tup [.ref a,.int (fi:Nat)])):=Same.new (Same.refl H2) ht
   have hz:(L.zip fs)[i]?=some (y,fi):=by
    rw[List.getElem?_zip_eq_some]
    exact⟨hy,hfi⟩
   have ef:=eB (fun x:LM.St×Nat=>x.2==f) hz
   refine⟨t,_,rfl,SqT.of ac,rfl,_,_,rfl,_,_,rfl,rfl,rfl,_,rfl,_,rfl,rfl,_,rfl,?_⟩
   rw[bJ]
   refine ite2 (fun z=>?_) fun z=>?_
   ·have z':fi=f:=of_decide_eq_true z
    rw[if_pos (by simp[z'])] at ef
    have h1':=s3 _ _ h1
    refine⟨_,rfl,us,h1',Nat.lt_of_le_of_lt h4 (Nat.lt_of_lt_of_le hil (Nat.le_trans hlen (by decide))),us++[.ref a],ac,?_,by simp;omega,fun c o e=>by rw[ai (af e hR)];exact s3 _ _ (h2 c o e)⟩
    rw[ef,List.map_append]
    have st:=bx (zs:=us++[V.ref a]) h1'
    exact aV (aH st (aH (Same.tup s3) h3)) ⟨a,rfl,st _ _ (s3 _ _ (h2 _ _ ha))⟩
   ·have z':¬fi=f:=fun q=>z (decide_eq_true q)
    rw[if_neg (by simpa using z'),List.append_nil] at ef
    exact⟨us,s3 _ _ h1,by rw[ef];exact aH (Same.tup s3) h3,by omega,h2.trans s3⟩
  ·rintro H2 ⟨us,h1,h3,h4,h2⟩
   have e0:(L.zip fs).take (min sv.length (fv fs).length)=L.zip fs:=by
    refine List.take_of_length_le ?_
    rw[List.length_zip,hfl,hs2.length]
    exact Nat.le_refl _
   rw[e0] at h3
   exact k _ R h2 hR ⟨us,h1,h3⟩
abbrev dR:Stmt:=top 20
abbrev vn:List Str:=["finger","stops","fingers","later_stops","later_fingers","places","stop"]
abbrev jM:List Str:=["finger","stops","fingers","later_stops","later_fingers"]
def qB:Sp:=fun vs H Q _=>∃(sp fp tp ep:Addr) (f:Nat) (h k:List LuteHand.Held) (g e:LuteHand.Grip),vs=[.int (f:Nat),.ref sp,.ref fp,.ref tp,.ref ep]/\StopsAt H sp (h.map LM.pr)/\StopsAt H tp (k.map LM.pr)/\H fp=some (.tup (fv g.fingers))/\H ep=some (.tup (fv e.fingers))/\g.fingers.length<=15/\e.fingers.length<=15 /\
 ∀H',Same H H'->Q (.bl (LM.jumpC h k g e f)) H'
theorem scJumps:FnScope vn jM (ad dR):=⟨rfl,rfl,rfl,by decide +kernel,rfl,by decide +kernel,by decide +kernel⟩
theorem ym {α:Type} (f:Nat) (a:List α) (b:List Nat):(LM.own f a b).length<=b.length:=by
 unfold LM.own
 rw[List.length_map]
 refine Nat.le_trans (List.length_filter_le _ _) ?_
 rw[List.length_zip]
 exact Nat.min_le_right _ _
theorem vc {f0 fS:Addr}{fd fdS:FuncData} (D:Df K mg "jumps" dR jM f0 fd) (DS:Df K mg "stopped_by" bY ["finger","stops","fingers"] fS fdS) (GS:FnOk P w K mg base CX0 1 fS fdS ["finger","stops","fingers"] lr) (gA:mg "any" = none):FnOk P w K mg base CX0 2 f0 fd jM qB:=by
 refine D.fn.ok scJumps (fun vs H Q E h=>?_) (fun cdv A outer s0 H vs Q E hr h=>?_)
 ·obtain⟨_,_,_,_,_,_,_,_,_,rfl,_⟩:=h
  rfl
 ·obtain⟨sp,fp,tp,ep,f,h,kk,g,e,rfl,hs,ht,hg,he,lg,le,k⟩:=h
  refine⟨_,ae (aM (PW.pt (lz (aq bS (pv 0) (pv 2) rfl) (jG (aq bS (pv 0) (pv 4) rfl)))) (ah (aA xI)) aw)
   (ae (aG (i:=5) scJumps.nd rfl (Or.inr rfl) (aE GS hr rfl DS.at_ DS.fn.kp DS.b .nil pass0 (aa (pv 0) (aa (pv 1) (aa (pv 2) ag)))))
   (ah (aA (yj (aR (yR rfl) (by rfl) gA boot_any (aa (jJ (own:=[("stop",6)]) (te:=tOp (wu K) (jb 6) (jb 5)) rfl scJumps.nd (bo (aE GS hr rfl DS.at_ DS.fn.kp DS.b .nil pass0 (aa (pv 0) (aa (pv 3) (aa (pv 4) ag))))) (BlkOk.mk (N:=vn) (sc:=ad dR) rfl (by decide +kernel) (by decide +kernel) (by decide +kernel) (by decide +kernel))
    (fun _ _ _ _ _=>aD (i:=6) scJumps.nd rfl (Or.inl rfl)) (fun _ _ _ _ _=>cr)
    (fun _ _ _ _ _=>bI (uU hr.units65) (pv 6) (pv 5) rfl)) ag)))))),?_⟩
  refine⟨_,rfl,_,rfl,fp,_,rfl,.inr (SqT.of hg),rfl,cy _,_,rfl,?_⟩
  rw[if_pos rfl,show inV (.int (f:Nat)) (fv g.fingers)=decide (f∈g.fingers) from gQ f _]
  unfold LM.jumpC at k
  refine ite2 (fun z=>?_) fun z=>?_
  ·have z':f∉g.fingers:=by simpa using z
   rw[if_pos (.inl z')] at k
   exact gH rfl (k H (Same.refl H))
  ·have z':f∈g.fingers:=by simpa using z
   refine⟨_,rfl,_,rfl,ep,_,rfl,.inr (SqT.of he),rfl,cy _,_,rfl,?_⟩
   rw[if_pos rfl,show inV (.int (f:Nat)) (fv e.fingers)=decide (f∈e.fingers) from gQ f _]
   refine ite2 (fun y=>?_) fun y=>?_
   ·have y':f∉e.fingers:=by simpa using y
    rw[if_pos (.inr y')] at k
    exact k H (Same.refl H)
   ·have y':f∈e.fingers:=by simpa using y
    rw[if_neg (by simp[z',y'])] at k
    refine⟨_,rfl,_,rfl,_,rfl,sp,fp,f,_,_,rfl,hs,hg,lg,fun H1 q s1 hq hq1=>?_⟩
    refine⟨_,rfl,_,rfl,_,rfl,tp,ep,f,_,_,rfl,ht.same s1,s1 _ _ he,le,fun H2 r s2 hr' hr1=>?_⟩
    obtain⟨rv,r1,r2⟩:=hr1
    refine⟨r,rfl,⟨_,SqL.of r1⟩,fun R hR=>?_⟩
    refine dE (K:=K) (a:=r) (xs:=rv) (fun i H3=>H3 R=some (.lst (((LM.own f (kk.map LM.pr) e.fingers).take i).map fun s=>V.bl (decide (s∈LM.own f (h.map LM.pr) g.fingers))))/\Same H2 H3) ⟨ac,Same.new (Same.refl H2) hR⟩ (fun i H3 _ h3=>SqL.of (h3.2 _ _ r1)) ?_ ?_
    ·rintro i v H3 hv ⟨h1,h2⟩
     obtain⟨x,hx,a,rfl,ha⟩:=aI r2 hv
     refine⟨rfl,mn ?_⟩
     refine⟨_,rfl,_,rfl,tj (hq1.same (s2.trans h2)) (h2 _ _ ha) ?_⟩
     refine⟨_,h1,?_,?_,fun c o z=>by rw[ai (af z hR)];exact h2 c o z⟩
     ·rw[List.length_map,List.length_take]
      exact Nat.lt_of_le_of_lt (Nat.min_le_right _ _) (Nat.lt_of_le_of_lt (Nat.le_trans (ym _ _ _) le) (by decide))
     ·rw[ac,aT hx,List.map_append]
      rfl
    ·rintro H3 ⟨h1,h2⟩
     rw[r2.length,List.take_length] at h1
     refine⟨R,(LM.own f (kk.map LM.pr) e.fingers).map fun s=>decide (s∈LM.own f (h.map LM.pr) g.fingers),rfl,SqL.of (by rw[h1,List.map_map];rfl),_,rfl,?_⟩
     have e1:((LM.own f (kk.map LM.pr) e.fingers).map fun s=>decide (s∈LM.own f (h.map LM.pr) g.fingers)).any id=(LM.own f (kk.map LM.pr) e.fingers).any fun s=>decide (s∈LM.own f (h.map LM.pr) g.fingers):=by
      rw[List.any_map]
      rfl
     rw[e1]
     exact k _ ((s1.trans s2).trans h2)
abbrev fY:Stmt:=top 21
abbrev yz:List Str:=["stops","grip","later_stops","later_grip","w","cost","finger"]
abbrev jN:List Str:=["stops","grip","later_stops","later_grip","w"]
def qC (K:W.Frag):Sp:=fun vs H Q _=>∃(sp tp wp:Addr) (gv ev:V) (h k:List LuteHand.Held) (g e:LuteHand.Grip) (ws:List Nat),vs=[.ref sp,gv,.ref tp,ev,.ref wp]/\StopsAt H sp (h.map LM.pr)/\StopsAt H tp (k.map LM.pr)/\GripAt H gv g/\GripAt H ev e/\WAt K H wp ws/\g.fingers.length=h.length/\e.fingers.length=k.length/\h.length<=15/\k.length<=15 /\
 ∀H',Same H H'->Q (.int ((LuteHand.goingCost ws h k g e:Nat):Int)) H'
theorem scGoing:FnScope yz jN (ad fY):=⟨rfl,rfl,rfl,by decide +kernel,rfl,by decide +kernel,by decide +kernel⟩
theorem ve {f0 fJ aF:Addr}{fd fdJ:FuncData} (D:Df K mg "going_cost" fY jN f0 fd) (DJ:Df K mg "jumps" dR jM fJ fdJ) (GJ:FnOk P w K mg base CX0 2 fJ fdJ jM qB) (gF:GT K mg "FINGERS" (fv [1,2,3,4]) aF) (gS:GV mg "SHIFT" (.int 0)) (gJ:GV mg "JUMP" (.int 7)) (gA:mg "abs" = none):FnOk P w K mg base CX0 3 f0 fd jN (qC K):=by
 refine D.fn.ok scGoing (fun vs H Q E h=>?_) (fun cdv A outer s0 H vs Q E hr h=>?_)
 ·obtain⟨_,_,_,_,_,_,_,_,_,_,rfl,_⟩:=h
  rfl
 ·obtain⟨sp,tp,wp,_,_,h,kk,g,e,ws,rfl,hs,ht,⟨ga,gf,rfl,hg1,hg2⟩,⟨ea,ef,rfl,he1,he2⟩,W,lg,le,l1,l2,k⟩:=h
  rw[LM.going_cost lg le] at k
  refine⟨_,ae (aG (i:=5) scGoing.nd rfl (Or.inl rfl) (bb mI (aJ aY (pv 4) (bc gS rfl) (fun _ _=>rfl)) (aR oZ (by rfl) gA boot_abs (aa (bb cZ (aJ aX (pv 1) ao (fun _ _=>rfl)) (aJ aX (pv 3) ao (fun _ _=>rfl))) ag))))
   (ae (br PassesOwn.never rfl (pA (dM gF rfl)) (aD (i:=6) scGoing.nd rfl (Or.inl rfl))
    (ah (aM (cY (aE GJ hr rfl DJ.at_ DJ.fn.kp DJ.b .nil pass0 (aa (pv 6) (aa (pv 0) (aa (aJ aX (pv 1) ao (fun _ _=>rfl)) (aa (pv 2) (aa (aJ aX (pv 3) ao (fun _ _=>rfl)) ag)))))))
     (ah (jH (i:=5) scGoing.nd rfl (Or.inl rfl) (aJ aY (pv 4) (bc gJ rfl) (fun _ _=>rfl)) ke)) aw)))
   (ah (aA (pv 5)))),?_⟩
  refine⟨_,rfl,wp,_,_,_,rfl,rfl,W.sq,W.at_ (i:=0) (by decide),_,rfl,ga,_,_,_,rfl,rfl,SqT.of hg1,az (j:=0) rfl,_,rfl,ea,_,_,_,rfl,rfl,SqT.of he1,az (j:=0) rfl,_,_,rfl,rfl,_,rfl,_,_,rfl,rfl,W.mul 0 _,?_⟩
  rw[o9]
  rw[show (fun (i j:Int)=>V.int (i * j)) ((LuteHand.weight ws 0:Nat):Int) ((LuteHand.diff g.pos e.pos:Nat):Int)=V.int ((LuteHand.weight ws 0 * LuteHand.diff g.pos e.pos:Nat):Int) from congrArg V.int (Int.natCast_mul _ _).symm]
  refine⟨aF,rfl,⟨_,gF.tab.sq _⟩,rh (K:=K) (a:=aF) (xs:=fv [1,2,3,4]) (fun j σ H'=>∃v6,σ=[some (.ref sp),some (.ref ga),some (.ref tp),some (.ref ea),some (.ref wp),some (.int ((LuteHand.weight ws 0 * LuteHand.diff g.pos e.pos+((([1,2,3,4]:List Nat).take j).map fun f=>if LM.jumpC h kk g e f=true then LuteHand.weight ws 7 else 0).sum:Nat):Int)),v6]/\Same H H') ⟨none,rfl,Same.refl H⟩ (fun _ _ _ _ _=>gF.tab.sq _) ?_ ?_⟩
  ·rintro j x σ H' hx ⟨v6,rfl,s1⟩
   unfold fv at hx
   rw[List.getElem?_map] at hx
   obtain⟨n,hn,rfl⟩:=Option.map_eq_some_iff.mp hx
   have esum:((([1,2,3,4]:List Nat).take (j+1)).map fun f=>if LM.jumpC h kk g e f=true then LuteHand.weight ws 7 else 0).sum=((([1,2,3,4]:List Nat).take j).map fun f=>if LM.jumpC h kk g e f=true then LuteHand.weight ws 7 else 0).sum+if LM.jumpC h kk g e n=true then LuteHand.weight ws 7 else 0:=by
    rw[aT hn,List.map_append]
    exact nn _ _
   refine⟨_,rfl,_,rfl,_,rfl,ga,_,_,_,rfl,rfl,SqT.of (s1 _ _ hg1),az (j:=1) rfl,_,rfl,_,rfl,ea,_,_,_,rfl,rfl,SqT.of (s1 _ _ he1),az (j:=1) rfl,?_⟩
   refine⟨sp,gf,tp,ef,n,h,kk,g,e,rfl,hs.same s1,ht.same s1,s1 _ _ hg2,s1 _ _ he2,by omega,by omega,fun H2 s2=>?_⟩
   rw[esum]
   refine⟨_,rfl,ite2 (fun z=>?_) fun z=>?_⟩
   ·rw[if_pos z,← Nat.add_assoc]
    refine⟨_,rfl,_,rfl,wp,_,_,_,rfl,rfl,(W.same (s1.trans s2)).sq,W.at_ (i:=7) (by decide),_,_,rfl,rfl,some (.int (n:Nat)),?_,s1.trans s2⟩
    rw[Int.natCast_add _ (LuteHand.weight ws 7)]
    rfl
   ·rw[if_neg z,Nat.add_zero]
    exact⟨_,rfl,s1.trans s2⟩
  ·rintro σ H' ⟨v6,rfl,s1⟩
   exact⟨_,rfl,k H' s1⟩
end
abbrev iT:Stmt:=top 81
abbrev xN:List Str:=["w","weight"]
def uq (K:W.Frag):Sp:=fun vs H Q _=>∃(wp:Addr) (ws:List Nat),vs=[.ref wp]/\SqL K H wp (ws.map fun (n:Nat)=>V.int (n:Int))/\∀H',Same H H'->Q (.bl (LuteE.fair ws)) H'
section
variable {P:Program}{w:World}{K:W.Frag}{mg:Str->Option Value}{base:Heap}
theorem scFair:FnScope xN ["w"] (ad iT):=⟨rfl,rfl,rfl,by decide +kernel,rfl,by decide +kernel,by decide +kernel⟩
theorem wP {f0:Addr}{fd:FuncData} (D:Df K mg "are_weights" iT ["w"] f0 fd) (gW:GV mg "WEIGHTS" (.int 9)) (gM:GV mg "MOST_WEIGHT" (.int 255)) (gL:mg "len" = none) (gA:mg "all" = none):FnOk P w K mg base CX0 2 f0 fd ["w"] (uq K):=by
 refine D.fn.ok scFair (fun vs H Q E h=>?_) (fun cdv A outer s0 H vs Q E hr h=>?_)
 ·obtain⟨_,_,rfl,_⟩:=h
  rfl
 ·obtain⟨wp,ws,rfl,hw,k⟩:=h
  refine⟨_,ah (aA (pC (bI bz (aR aZ (by rfl) gL PySem.boot_len (aa (pv 0) ag)) (bc gW rfl) (nomark _)) (mG (aR (qb rfl) (by rfl) gA boot_all (aa (jJ (own:=[("weight",1)]) rfl scFair.nd (bo (pv 0)) (BlkOk.mk (N:=xN) (sc:=ad iT) rfl (by decide +kernel) (by decide +kernel) (by decide +kernel) (by decide +kernel))
    (fun _ _ _ _ _=>aD (i:=1) scFair.nd rfl (Or.inl rfl)) (fun _ _ _ _ _=>cr)
    (fun _ _ _ _ _=>nM qR qR ao (pv 1) (bc gM rfl))) ag))))),?_⟩
  refine⟨_,rfl,wp,_,rfl,.inl hw,rfl,_,rfl,?_⟩
  unfold LuteE.fair at k
  rw[List.length_map]
  have e9:decide (V.int ((ws.length:Nat):Int)=V.int 9)=(ws.length==9):=by
   rw[Bool.eq_iff_iff,decide_eq_true_eq,beq_iff_eq]
   constructor
   ·intro q
    injection q with q
    omega
   ·intro q
    rw[q]
    rfl
  rw[e9]
  refine ite2 (fun z=>?_) fun z=>?_
  ·have z':ws.length=9:=by simpa using z
   rw[z,Bool.true_and] at k
   refine⟨_,rfl,wp,rfl,⟨_,hw⟩,fun R hR=>?_⟩
   refine dE (K:=K) (a:=wp) (xs:=ws.map fun (n:Nat)=>V.int (n:Int)) (fun i H2=>H2 R=some (.lst ((ws.take i).map fun x=>V.bl (decide (x<=255))))/\Same H H2) ⟨ac,Same.new (Same.refl H) hR⟩ (fun i H2 _ h2=>h2.2.seq hw) ?_ ?_
   ·rintro i v H2 hv ⟨h1,h2⟩
    rw[List.getElem?_map] at hv
    obtain⟨x,hx,rfl⟩:=Option.map_eq_some_iff.mp hv
    refine⟨rfl,mn ?_⟩
    refine⟨_,rfl,_,_,rfl,rfl,_,rfl,gH (by simp) ?_⟩
    refine⟨_,_,rfl,rfl,?_⟩
    refine⟨_,h1,?_,?_,fun c o q=>by rw[ai (af q hR)];exact h2 c o q⟩
    ·rw[List.length_map,List.length_take]
     exact Nat.lt_of_le_of_lt (Nat.min_le_right _ _) (by rw[z'];decide)
    ·rw[ac,aT hx,List.map_append]
     have e:decide ((x:Int)<=255)=decide (x<=255):=by
      rw[Bool.eq_iff_iff,decide_eq_true_eq,decide_eq_true_eq]
      omega
     exact congrArg (fun b=>some (HO.lst (List.map (fun x=>V.bl (decide (x<=255))) (List.take i ws)++[V.bl b]))) e
   ·rintro H2 ⟨h1,h2⟩
    rw[List.length_map,List.take_length] at h1
    refine⟨R,ws.map fun x=>decide (x<=255),rfl,SqL.of (by rw[h1,List.map_map];rfl),?_⟩
    have e1:(ws.map fun x=>decide (x<=255)).all id=ws.all fun x=>decide (x<=255):=by
     rw[List.all_map]
     rfl
    rw[e1]
    exact k _ h2
  ·have z':(ws.length==9)=false:=by simpa using z
   rw[z',Bool.false_and] at k
   exact k H (Same.refl H)
abbrev cC:Stmt:=top 80
abbrev vj:List Str:=["ring","t","w","reading"]
def eU (ring:Nat) (ns ws:List Nat):Except Int (List (List LuteHand.Held)):=match LM.rdg ring ns with
 | .error z=>.error z
 | .ok hs=>if LuteE.fair ws=false then .error (-1) else .ok hs
theorem uD {ring:Nat}{ns ws:List Nat}{z:Int} (h:eU ring ns ws=.error z):z<0:=by
 unfold eU at h
 cases hr:LM.rdg ring ns with
 | error y =>
  rw[hr] at h
  cases h
  exact LM.rdg_neg hr
 | ok hs =>
  rw[hr] at h
  dsimp only at h
  split at h
  ·cases h
   decide
  ·cases h
theorem qI {ring:Nat}{ns ws:List Nat}{hs:List (List LuteHand.Held)} (h:eU ring ns ws=.ok hs):LM.rdg ring ns=.ok hs/\ws.length=9/\∀x∈ws,x<=255:=by
 unfold eU at h
 cases hr:LM.rdg ring ns with
 | error y=>rw[hr] at h;cases h
 | ok hs' =>
  rw[hr] at h
  dsimp only at h
  split at h
  ·cases h
  ·next hf =>
   cases h
   have hf':LuteE.fair ws=true:=by simpa using hf
   unfold LuteE.fair at hf'
   simp only[Bool.and_eq_true,beq_iff_eq,List.all_eq_true,decide_eq_true_eq] at hf'
   exact⟨rfl,hf'⟩
theorem wU (ws:List Nat):LuHandNeutral.nats (ws.map fun (n:Nat)=>(n:Int))=ws:=by
 unfold LuHandNeutral.nats LuHandNeutral.nat
 rw[List.map_map]
 conv=>rhs;rw[← List.map_id ws]
 rfl
theorem mr {ns:List Nat} (hn:∀n∈ns,n<256) (ring:Nat) (ws:List Nat) (f:List (List LuteHand.Held)->List Int):LuteE.weighed (ns.map UInt8.ofNat) ring ws f=match eU ring ns ws with
  | .error z=>[z]
  | .ok hs=>f hs:=by
 unfold LuteE.weighed
 rw[LM.of_rdg hn]
 unfold eU
 cases LM.rdg ring ns with
 | error z=>rfl
 | ok hs =>
  dsimp only
  split
  ·rfl
  ·rfl
def lq (K:W.Frag) (C CM:Addr):Sp:=fun vs H Q _=>∃(ring:Nat) (a wp:Addr) (ns ws:List Nat),vs=[.int (ring:Nat),.ref a,.ref wp]/\SqL K H a (ns.map fun (n:Nat)=>V.int (n:Int))/\SqL K H wp (ws.map fun (n:Nat)=>V.int (n:Int))/\∀H' v,Same H H'->vZ C CM H' v (eU ring ns ws)->Q v H'
theorem scWeighed:FnScope vj ["ring","t","w"] (ad cC):=⟨rfl,rfl,rfl,by decide +kernel,rfl,by decide +kernel,by decide +kernel⟩
theorem pE {f0 fM fF CR fR CM:Addr}{fd fdM fdF fdR:FuncData} (D:Df K mg "read_weighed" cC ["ring","t","w"] f0 fd) (DM:Df K mg "read_moments" bT ["ring","t"] fM fdM) (DF:Df K mg "are_weights" iT ["w"] fF fdF) (KR:KRead K mg CR fR fdR)
  (GM:FnOk P w K mg base CX0 9 fM fdM ["ring","t"] (jx K CR CM)) (GF:FnOk P w K mg base CX0 2 fF fdF ["w"] (uq K)):FnOk P w K mg base CX0 10 f0 fd ["ring","t","w"] (lq K CR CM):=by
 have GI:FnOk P w K mg base CX0 1 fR fdR dY (dr CR "refusal" "moments"):=nT KR
 refine D.fn.ok scWeighed (fun vs H Q E h=>?_) (fun cdv A outer s0 H vs Q E hr h=>?_)
 ·obtain⟨_,_,_,_,_,rfl,_⟩:=h
  rfl
 ·obtain⟨ring,a,wp,ns,ws,rfl,hS,hW,k⟩:=h
  refine⟨_,ae (aG (i:=3) scWeighed.nd rfl (Or.inl rfl) (aE GM hr rfl DM.at_ DM.fn.kp DM.b .nil pass0 (aa (pv 0) (aa (pv 1) ag))))
   (ae (aM (PW.pt (uF (aq bz (ci (pv 3) rfl) ao (nomark _)) (qJ (ie (cY (aE GF (hr.mono (by decide)) rfl DF.at_ DF.fn.kp DF.b .nil pass0 (aa (pv 2) ag))))))) (ah (aA (gq KR.mkd GI (hr.mono (by decide)) rfl KR.at_ KR.b .nil pass0 (aa (dW cA ao) (aa (bn ag) ag))))) aw)
   (ah (aA (pv 3)))),?_⟩
  refine⟨_,rfl,_,rfl,ring,a,ns,rfl,hS,fun H1 v s1 hv=>?_⟩
  have hv0:=hv
  cases hrd:LM.rdg ring ns with
  | error z =>
   have e:eU ring ns ws=.error z:=by unfold eU;rw[hrd]
   rw[hrd] at hv
   obtain⟨m,dx,q,rfl,hm⟩:=hv
   have hz:z≠0:=by have:=LM.rdg_neg hrd;omega
   refine⟨_,rfl,m,CR,dx,_,_,rfl,hm,KR.cl,KR.no _ (by simp),eX nH,rfl,_,rfl,iB (by simp[hz]) ?_⟩
   refine iB (by simp) ?_
   exact⟨_,rfl,k H1 _ s1 (by rw[e];exact⟨m,dx,q,rfl,hm⟩)⟩
  | ok hs =>
   rw[hrd] at hv
   obtain⟨m,dx,q,rfl,hm,hq⟩:=hv
   refine⟨_,rfl,m,CR,dx,_,_,rfl,hm,KR.cl,KR.no _ (by simp),eX nH,rfl,_,rfl,gH (by simp) ?_⟩
   refine⟨_,rfl,wp,ws,rfl,s1.seq hW,fun H2 s2=>⟨_,rfl,?_⟩⟩
   refine ite2 (fun z=>?_) fun z=>?_
   ·have z':LuteE.fair ws=false:=by simpa using z
    have e:eU ring ns ws=.error (-1):=by unfold eU;rw[hrd];dsimp only;rw[if_pos z']
    refine⟨_,rfl,Nat.zero_le _,fun l hl=>?_⟩
    intro p pdx hp hpd _
    exact made2 hp hpd fun H' s hp'=>k H' _ (((s1.trans s2).new hl).trans s) (by rw[e];exact⟨p,pdx,l,rfl,hp'⟩)
   ·have z':¬LuteE.fair ws=false:=fun q=>z (by rw[q];rfl)
    have e:eU ring ns ws=.ok hs:=by unfold eU;rw[hrd];dsimp only;rw[if_neg z']
    exact⟨_,rfl,k H2 _ (s1.trans s2) (by rw[e];exact⟨m,dx,q,rfl,s2 _ _ hm,hq.same s2⟩)⟩
end
theorem i6 (g:LuteHand.Grip):SeqAt.shaped (dN g)=true:=by
 unfold SeqAt.shaped
 have h1:=lJ g.fingers
 have h2:=vQ g
 rw[Bool.and_eq_true,decide_eq_true_eq]
 refine⟨by simp[dN,rm,PyData.canLay0,PyData.canLayAll0,h1],by omega⟩
theorem lS:∀a b:List Nat,PyData.eqvAll (a.map fun (n:Nat)=>PyData.int (n:Nat)) (b.map fun (n:Nat)=>PyData.int (n:Nat))=decide (a=b)
 | [],[]=>by simp[PyData.eqvAll]
 | [],_::_=>by simp[PyData.eqvAll]
 | _::_,[]=>by simp[PyData.eqvAll]
 | x::a,y::b=>by
  have ih:=lS a b
  simp only[List.map_cons,PyData.eqvAll,ih,PyData.eqv]
  rw[Bool.eq_iff_iff]
  simp
  omega
theorem oy (g e:LuteHand.Grip):PyData.eqv (dN g) (dN e)=decide (g=e):=by
 obtain⟨p,a⟩:=g
 obtain⟨q,b⟩:=e
 unfold dN rm
 simp only[PyData.eqv,PyData.eqvAll,lS]
 rw[Bool.eq_iff_iff]
 simp
 omega
theorem vE {H:Hp}{v:V}{g e:LuteHand.Grip} (h1:GripAt H v g) (h2:GripAt H v e):g=e:=by
 obtain⟨a,f,rfl,a1,a2⟩:=h1
 obtain⟨b,f',eb,b1,b2⟩:=h2
 cases eb
 rw[a1] at b1
 injection b1 with b1
 injection b1 with b1
 injection b1 with c1 c2
 injection c1 with c1
 injection c2 with c2 _
 injection c2 with c2
 subst c2
 rw[a2] at b2
 injection b2 with b2
 injection b2 with b2
 obtain⟨p,x⟩:=g
 obtain⟨q,y⟩:=e
 have e1:p=q:=by
  have:(p:Int)=(q:Int):=c1
  omega
 have e2:x=y:=by
  refine List.map_inj_right (fun a b z=>?_) |>.mp b2
  injection z with z
  omega
 rw[e1,e2]
theorem ki {H:Hp}:∀{vs:List V}{l:List LuteHand.Grip},Paired (GripAt H) vs l->∃as:List Addr,vs=as.map V.ref/\as.length=l.length/\∀(i:Nat) (g:LuteHand.Grip),l[i]?=some g->∃a,as[i]?=some a/\GripAt H (.ref a) g
 | _,_,.nil=>⟨[],rfl,rfl,fun i g h=>by simp at h⟩
 | _,_,.cons (b:=g0) r t=>by
  obtain⟨as,h1,h2,h3⟩:=ki t
  have r0:=r
  obtain⟨a,f,e,_,_⟩:=r
  refine⟨a::as,by rw[e,h1];rfl,by simp[h2],fun i g h=>?_⟩
  cases i with
  | zero =>
   simp at h
   subst h
   exact⟨a,rfl,by rw[← e];exact r0⟩
  | succ i=>exact h3 i g (by simpa using h)
open Classical in
noncomputable def rC (H:Hp) (a:Addr):PyData:=if h:∃g,GripAt H (.ref a) g then dN h.choose else .none
theorem iF {H:Hp}{a:Addr}{g:LuteHand.Grip} (h:GripAt H (.ref a) g):rC H a=dN g:=by
 unfold rC
 have hx:∃g,GripAt H (.ref a) g:=⟨g,h⟩
 rw[dif_pos hx]
 rw[vE hx.choose_spec h]
theorem tm {K:W.Frag}{H:Hp}{p:Addr}{gv:V}{l:List LuteHand.Grip}{g:LuteHand.Grip}{Q:VK} (h:GripsAt H p l) (hg:GripAt H gv g) (q:Q (.bl (decide (g∈l))) H):wu K gv (.ref p) H Q:=by
 obtain⟨vs,h1,h2⟩:=h
 obtain⟨as,e,hl,hat⟩:=ki h2
 subst e
 have back:∀c∈as,∃y,y∈l/\GripAt H (.ref c) y:=by
  intro c hc
  obtain⟨j,hj⟩:=List.mem_iff_getElem?.mp hc
  have hjl:=(List.getElem?_eq_some_iff.mp hj).1
  rw[hl] at hjl
  obtain⟨c',hc',hct⟩:=hat j _ (List.getElem?_eq_getElem hjl)
  rw[hj] at hc'
  cases hc'
  exact⟨_,List.getElem_mem hjl,hct⟩
 refine⟨p,as,rC H,dN g,rfl,SqL.of h1,fun c hc=>?_,rq hg,i6 _,?_⟩
 ·obtain⟨y,_,hy⟩:=back c hc
  rw[iF hy]
  exact⟨rq hy,i6 _⟩
 ·have e:(as.any fun c=>PyData.eqv (rC H c) (dN g))=decide (g∈l):=by
   rw[Bool.eq_iff_iff,List.any_eq_true,decide_eq_true_eq]
   constructor
   ·rintro⟨c,hc,ec⟩
    obtain⟨y,hy1,hy2⟩:=back c hc
    rw[iF hy2,oy] at ec
    rw[← of_decide_eq_true ec]
    exact hy1
   ·intro hx
    obtain⟨j,hj⟩:=List.mem_iff_getElem?.mp hx
    obtain⟨c,hc,hct⟩:=hat j g hj
    refine⟨c,List.mem_of_getElem? hc,?_⟩
    rw[iF hct,oy]
    simp
  rw[e]
  exact q
abbrev dy:Stmt:=top 9
abbrev eN:List Str:=["stops","grip"]
def ny:Sp:=fun vs H Q _=>∃(sp:Addr) (gv:V) (h:List LuteHand.Held) (g:LuteHand.Grip),vs=[.ref sp,gv]/\StopsAt H sp (h.map LM.pr)/\GripAt H gv g/\h.length<=6/\∀H',Same H H'->Q (.bl (g.ok h)) H'
section
variable {P:Program}{w:World}{K:W.Frag}{mg:Str->Option Value}{base:Heap}
theorem ux:FnScope eN eN (ad dy):=⟨rfl,rfl,rfl,by decide +kernel,rfl,by decide +kernel,by decide +kernel⟩
theorem sy {f0 fF:Addr}{fd fdF:FuncData} (D:Df K mg "is_grip" dy eN f0 fd) (DF:Df K mg "find_grips" bL ["stops"] fF fdF) (GF:FnOk P w K mg base CX0 5 fF fdF ["stops"] iN):FnOk P w K mg base CX0 6 f0 fd eN ny:=by
 refine D.fn.ok ux (fun vs H Q E h=>?_) (fun cdv A outer s0 H vs Q E hr h=>?_)
 ·obtain⟨_,_,_,_,rfl,_⟩:=h
  rfl
 ·obtain⟨sp,gv,h,g,rfl,hs,hg,h6,k⟩:=h
  refine⟨_,ah (aA (bI (uU hr.units65) (pv 1) (aE GF hr rfl DF.at_ DF.fn.kp DF.b .nil pass0 (aa (pv 0) ag)) rfl)),?_⟩
  refine⟨_,rfl,_,rfl,sp,h,rfl,hs,h6,fun H1 q s1 hq hG=>?_⟩
  refine tm hG (hg.mono (Same.tup s1)) ?_
  have e:decide (g∈LuteHand.grips h)=g.ok h:=by
   rw[Bool.eq_iff_iff,decide_eq_true_eq]
   exact LM.mem_grips
  rw[e]
  exact k H1 s1
abbrev fZ:Stmt:=top 23
abbrev yA:List Str:=["moments","told","number","moment"]
def qE (CM:Addr):Sp:=fun vs H Q _=>∃(q tl:Addr) (hs:List (List LuteHand.Held)) (l:List LuteHand.Grip),vs=[.ref q,.ref tl]/\MomentsAt CM H q hs/\(∀x∈LM.withPrev [] hs,LM.okMom x)/\hs≠[]/\GripsAt H tl l/\l.length=hs.length/\(∀(j:Nat) (g:LuteHand.Grip) (h:List LuteHand.Held),l[j]?=some g->hs[j]?=some h->g.fingers.length=h.length) /\
 (match LuteHand.wrongAt 0 hs l with
  | none=>∀H',Same H H'->Q .non H'
  | some i=>∀H',Same H H'->Q (.int (i:Nat)) H')
theorem scFault:FnScope yA ["moments","told"] (ad fZ):=⟨rfl,rfl,rfl,by decide +kernel,rfl,by decide +kernel,by decide +kernel⟩
theorem vg {f0 fI fK CM fM:Addr}{fd fdI fdK fdM:FuncData} (D:Df K mg "first_fault" fZ ["moments","told"] f0 fd) (DI:Df K mg "is_grip" dy eN fI fdI) (DK:Df K mg "keeps_fingers" dQ ["ties","grip","later_grip"] fK fdK) (KM:KMom K mg CM fM fdM)
  (GI:FnOk P w K mg base CX0 6 fI fdI eN ny) (GK:FnOk P w K mg base CX0 2 fK fdK ["ties","grip","later_grip"] qA) (gE:mg "enumerate" = none):FnOk P w K mg base CX0 7 f0 fd ["moments","told"] (qE CM):=by
 refine D.fn.ok scFault (fun vs H Q E h=>?_) (fun cdv A outer s0 H vs Q E hr h=>?_)
 ·obtain⟨_,_,_,_,rfl,_⟩:=h
  rfl
 ·obtain⟨q,tl,hs,l,rfl,⟨mv,hq1,hq2⟩,okm,hne,⟨gv,hg1,hg2⟩,hll,hfl,k⟩:=h
  have hml:mv.length=hs.length:=by rw[hq2.length,LM.withPrev_len]
  refine⟨_,ae (br PassesOwn.never rfl (jk rfl gE (aa (pv 0) ag)) (bV (n:=2) rfl (aO (aD (i:=2) scFault.nd rfl (Or.inl rfl)) (aO (aD (i:=3) scFault.nd rfl (Or.inl rfl)) bD)))
    (ae (aM (ie (cY (aE GI hr rfl DI.at_ DI.fn.kp DI.b .nil pass0 (aa (ci (pv 3) rfl) (aa (aJ aY (pv 1) (pv 2) (fun _ _=>rfl)) ag))))) (ah (aA (pv 2))) aw)
    (ah (aM (PW.pt (uF (aq dg (pv 2) ao (nomark _)) (qJ (ie (cY (aE GK (hr.mono (by decide)) rfl DK.at_ DK.fn.kp DK.b .nil pass0 (aa (ci (pv 3) rfl) (aa (aJ aY (pv 1) (bb cZ (pv 2) ao) (fun _ _=>rfl)) (aa (aJ aY (pv 1) (pv 2) (fun _ _=>rfl)) ag))))))))) (ah (aA (pv 2))) aw))))
   (ah (aA cE)),?_⟩
  refine⟨_,rfl,q,_,rfl,SqL.of hq1,g6 (K:=K) (a:=q) (xs:=mv) (fun i σ H'=>∃(v2 v3:Option V),σ=[some (.ref q),some (.ref tl),v2,v3]/\Same H H'/\(i=0∨∃h g,hs[i-1]?=some h/\l[i-1]?=some g/\LuteHand.wrongAt 0 hs l=LM.faultF i h g (hs.drop i) (l.drop i)))
   ⟨none,none,rfl,Same.refl H,.inl rfl⟩ (fun i σ H' ⟨_,_,_,z,_⟩=>SqL.of (z _ _ hq1)) ?_ ?_⟩
  ·rintro i v σ H' t hv ⟨v2,v3,rfl,s1,hinv⟩ ht
   obtain⟨x,hx,hmom⟩:=aI hq2 hv
   have hi:i<hs.length:=by have:=(List.getElem?_eq_some_iff.mp hv).1;omega
   obtain⟨h,hh⟩:∃h,hs[i]?=some h:=⟨_,List.getElem?_eq_getElem hi⟩
   obtain⟨g,hg⟩:∃g,l[i]?=some g:=⟨_,List.getElem?_eq_getElem (by omega)⟩
   obtain⟨ga,hga⟩:∃ga,gv[i]?=some ga:=⟨_,List.getElem?_eq_getElem (by rw[hg2.length];omega)⟩
   obtain⟨g',hg',hgat⟩:=aI hg2 hga
   rw[hg] at hg'
   cases hg'
   rw[LM.withPrev_at hh] at hx
   have okx:=okm _ (List.mem_of_getElem? (LM.withPrev_at (p:=[]) hh))
   generalize hb:(if i=0 then ([]:List LuteHand.Held) else (hs[i-1]?).getD [])=b at hx okx
   cases hx
   obtain⟨m,dx,sp,tp,rfl,hm,hsp,htp,_,_⟩:=hmom
   have h6:=okx.2.1.len
   have s2:Same H (upd H' t (.tup [.int (i:Nat),.ref m])):=s1.new ht
   have hgl:=hfl i g h hg hh
   have hd1:hs.drop i=h::hs.drop (i+1):=by
    rw[List.drop_eq_getElem_cons hi]
    congr 1
    exact (List.getElem?_eq_some_iff.mp hh).2
   have hd2:l.drop i=g::l.drop (i+1):=by
    rw[List.drop_eq_getElem_cons (by omega)]
    congr 1
    exact (List.getElem?_eq_some_iff.mp hg).2
   refine⟨t,_,rfl,SqT.of ac,rfl,_,_,rfl,_,_,rfl,rfl,?_⟩
   generalize upd H' t (.tup [.int (i:Nat),.ref m])=H1 at s2
   refine⟨_,rfl,m,CM,dx,_,_,rfl,s2 _ _ hm,KM.cl,KM.no _ (by simp),eX nq,_,rfl,_,rfl,tl,_,_,_,rfl,rfl,SqL.of (s2 _ _ hg1),az hga,?_⟩
   refine⟨sp,ga,h,g,rfl,hsp.same s2,hgat.mono (Same.tup s2),h6,fun H2 s3=>⟨_,rfl,?_⟩⟩
   have s23:=s2.trans s3
   have ew:LuteHand.wrongAt 0 hs l=if g.ok h=false then some i else if 0<i/\LuteHand.keeps b h ((l[i-1]?).getD g) g=false then some i else LM.faultF (i+1) h g (hs.drop (i+1)) (l.drop (i+1)):=by
    rcases hinv with rfl | ⟨h',g',a1,a2,a3⟩
    ·have e1:hs=h::hs.drop 1:=by simpa using hd1
     have e2:l=g::l.drop 1:=by simpa using hd2
     have:=LM.wrong_fault 0 h g (hs.drop 1) (l.drop 1) (by simp[hll])
     rw[← e1,← e2] at this
     rw[this]
     simp
    ·by_cases i0:i=0
     ·subst i0
      rw[List.drop_zero,List.drop_zero] at a3
      have e1:hs=h::hs.drop 1:=by simpa using hd1
      have e2:l=g::l.drop 1:=by simpa using hd2
      have:=LM.wrong_fault 0 h g (hs.drop 1) (l.drop 1) (by simp[hll])
      rw[← e1,← e2] at this
      rw[this]
      simp
     ·rw[hd1,hd2] at a3
      rw[a3,a2]
      have eb:b=h':=by rw[← hb,if_neg i0,a1];rfl
      subst eb
      show (if g.ok h=false then some i else if LuteHand.keeps b h g' g=false then some i else _)=_
      have i1:0<i:=by omega
      simp only[Option.getD_some,i1,true_and]
   refine ite2 (fun z=>?_) fun z=>?_
   ·have z':g.ok h=false:=by simpa using z
    rw[if_pos z'] at ew
    rw[ew] at k
    exact⟨_,rfl,k H2 s23⟩
   ·have z':g.ok h=true:=by simpa using z
    rw[if_neg (by rw[z'];simp)] at ew
    refine⟨_,rfl,_,_,rfl,rfl,_,rfl,ite2 (fun y=>?_) fun y=>?_⟩
    ·have i1:0<i:=by have:(0:Int)<(i:Nat):=of_decide_eq_true y;omega
     obtain⟨g',hg'⟩:∃g',l[i-1]?=some g':=⟨_,List.getElem?_eq_getElem (by omega)⟩
     obtain⟨h',hh'⟩:∃h',hs[i-1]?=some h':=⟨_,List.getElem?_eq_getElem (by omega)⟩
     obtain⟨ga',hga'⟩:∃ga,gv[i-1]?=some ga:=⟨_,List.getElem?_eq_getElem (by rw[hg2.length];omega)⟩
     obtain⟨g2,hg2',hgat'⟩:=aI hg2 hga'
     rw[hg'] at hg2'
     cases hg2'
     have eb:b=h':=by rw[← hb,if_neg (by omega),hh'];rfl
     subst eb
     have hgl':=hfl (i-1) g' b hg' hh'
     rw[hg'] at ew
     have ei:((i:Nat):Int)-1=((i-1:Nat):Int):=by omega
     refine⟨_,rfl,m,CM,dx,_,_,rfl,s23 _ _ hm,KM.cl,KM.no _ (by simp),qk,_,rfl,_,rfl,_,_,rfl,rfl,tl,_,_,_,rfl,rfl,SqL.of (s23 _ _ hg1),by rw[ei];exact az hga',_,rfl,_,rfl,tl,_,_,_,rfl,rfl,SqL.of (s23 _ _ hg1),az hga,?_⟩
     refine⟨tp,ga',ga,LM.ties b h,g',g,rfl,htp.same s23,hgat'.mono (Same.tup s23),hgat.mono (Same.tup s23),?_,?_,fun H3 s4=>⟨_,rfl,?_⟩⟩
     ·intro t ht
      rw[hgl',hgl]
      exact LM.tie_in okx.2.2 ht
     ·exact Nat.le_trans (ub b h) (Nat.le_trans h6 (by decide))
     ·have ek:vz (LM.ties b h) g' g=LuteHand.keeps b h g' g:=(LM.keeps_ties okx.1 okx.2.2 hgl' hgl).symm
      rw[ek]
      simp only[Option.getD_some,i1,true_and] at ew
      refine ite2 (fun u=>?_) fun u=>?_
      ·have u':LuteHand.keeps b h g' g=false:=by simpa using u
       rw[if_pos u'] at ew
       rw[ew] at k
       exact⟨_,rfl,k H3 (s23.trans s4)⟩
      ·have u':LuteHand.keeps b h g' g=true:=by simpa using u
       rw[if_neg (by rw[u'];simp)] at ew
       exact⟨_,_,rfl,s23.trans s4,.inr ⟨h,g,by simpa using hh,by simpa using hg,ew⟩⟩
    ·have i0:¬0<i:=fun u=>y (decide_eq_true (by omega))
     rw[if_neg (fun u=>i0 u.1)] at ew
     refine iB (by simp) ?_
     exact⟨_,_,rfl,s23,.inr ⟨h,g,by simpa using hh,by simpa using hg,ew⟩⟩
  ·rintro σ H' ⟨v2,v3,rfl,s1,hinv⟩
   have hpos:0<hs.length:=List.length_pos_iff.mpr hne
   rcases hinv with h0 | ⟨h,g,a1,a2,a3⟩
   ·omega
   ·have e1:hs.drop mv.length=[]:=by rw[List.drop_eq_nil_iff];omega
    rw[e1] at a3
    have e2:LM.faultF mv.length h g [] (l.drop mv.length)=none:=rfl
    rw[e2] at a3
    rw[a3] at k
    exact k H' s1
end
abbrev fV:Stmt:=top 24
abbrev yw:List Str:=["moments","grips","w","cost","number","moment"]
def qy (K:W.Frag) (CM:Addr):Sp:=fun vs H Q _=>∃(q gl wp:Addr) (hs:List (List LuteHand.Held)) (l:List LuteHand.Grip) (ws:List Nat),vs=[.ref q,.ref gl,.ref wp]/\MomentsAt CM H q hs/\(∀x∈LM.withPrev [] hs,LM.okMom x)/\hs≠[]/\GripsAt H gl l/\l.length=hs.length/\WAt K H wp ws/\(∀(j:Nat) (g:LuteHand.Grip) (h:List LuteHand.Held),l[j]?=some g->hs[j]?=some h->g.ok h=true) /\
 ∀H',Same H H'->Q (.int ((LuteHand.cost ws hs l:Nat):Int)) H'
section
variable {P:Program}{w:World}{K:W.Frag}{mg:Str->Option Value}{base:Heap}
theorem scPCost:FnScope yw ["moments","grips","w"] (ad fV):=⟨rfl,rfl,rfl,by decide +kernel,rfl,by decide +kernel,by decide +kernel⟩
theorem u9 {f0 fS fC fG CM fM:Addr}{fd fdS fdC fdG fdM:FuncData} (D:Df K mg "plan_cost" fV ["moments","grips","w"] f0 fd) (DS:Df K mg "starting_cost" fE ik fS fdS) (DC:Df K mg "grip_cost" bU ["stops","grip","w"] fC fdC) (DG:Df K mg "going_cost" fY jN fG fdG) (KM:KMom K mg CM fM fdM)
  (GS:FnOk P w K mg base CX0 1 fS fdS ik (qv K)) (GC:FnOk P w K mg base CX0 1 fC fdC ["stops","grip","w"] (jz K)) (GG:FnOk P w K mg base CX0 3 fG fdG jN (qC K)) (gE:mg "enumerate" = none):FnOk P w K mg base CX0 4 f0 fd ["moments","grips","w"] (qy K CM):=by
 refine D.fn.ok scPCost (fun vs H Q E h=>?_) (fun cdv A outer s0 H vs Q E hr h=>?_)
 ·obtain⟨_,_,_,_,_,_,rfl,_⟩:=h
  rfl
 ·obtain⟨q,gl,wp,hs,l,ws,rfl,⟨mv,hq1,hq2⟩,okm,hne,⟨gv,hg1,hg2⟩,hll,W,hok,k⟩:=h
  have hml:mv.length=hs.length:=by rw[hq2.length,LM.withPrev_len]
  have hpos:0<hs.length:=List.length_pos_iff.mpr hne
  obtain⟨h0,hh0⟩:∃h,hs[0]?=some h:=⟨_,List.getElem?_eq_getElem hpos⟩
  obtain⟨g0,hg0⟩:∃g,l[0]?=some g:=⟨_,List.getElem?_eq_getElem (by omega)⟩
  obtain⟨a0,ha0⟩:∃ga,gv[0]?=some ga:=⟨_,List.getElem?_eq_getElem (by rw[hg2.length];omega)⟩
  obtain⟨g0',hg0',hga0⟩:=aI hg2 ha0
  rw[hg0] at hg0'
  cases hg0'
  have ok0:=hok 0 g0 h0 hg0 hh0
  refine⟨_,ae (aG (i:=3) scPCost.nd rfl (Or.inl rfl) (aE GS (hr.mono (by decide)) rfl DS.at_ DS.fn.kp DS.b .nil pass0 (aa (aJ aY (pv 1) ao (fun _ _=>rfl)) (aa (pv 2) ag))))
   (ae (br PassesOwn.never rfl (jk rfl gE (aa (pv 0) ag)) (bV (n:=2) rfl (aO (aD (i:=4) scPCost.nd rfl (Or.inl rfl)) (aO (aD (i:=5) scPCost.nd rfl (Or.inl rfl)) bD)))
    (ae (jH (i:=3) scPCost.nd rfl (Or.inl rfl) (aE GC (hr.mono (by decide)) rfl DC.at_ DC.fn.kp DC.b .nil pass0 (aa (ci (pv 5) rfl) (aa (aJ aY (pv 1) (pv 4) (fun _ _=>rfl)) (aa (pv 2) ag)))) ke)
    (ah (aM (aq dg (pv 4) ao (nomark _)) (ah (jH (i:=3) scPCost.nd rfl (Or.inl rfl) (aE GG hr rfl DG.at_ DG.fn.kp DG.b .nil pass0 (aa (ci (aJ aY (pv 0) (bb cZ (pv 4) ao) (fun _ _=>rfl)) rfl) (aa (aJ aY (pv 1) (bb cZ (pv 4) ao) (fun _ _=>rfl)) (aa (ci (pv 5) rfl) (aa (aJ aY (pv 1) (pv 4) (fun _ _=>rfl)) (aa (pv 2) ag)))))) ke)) aw))))
   (ah (aA (pv 3)))),?_⟩
  refine⟨_,rfl,gl,_,_,_,rfl,rfl,SqL.of hg1,az (j:=0) ha0,_,rfl,a0,wp,g0,ws,rfl,hga0,W,(LM.ok_all ok0).1,?_⟩
  refine⟨_,rfl,q,_,rfl,SqL.of hq1,g6 (K:=K) (a:=q) (xs:=mv) (fun i σ H'=>∃(v4 v5:Option V) (c:Nat),σ=[some (.ref q),some (.ref gl),some (.ref wp),some (.int (c:Nat)),v4,v5]/\Same H H'/\((i=0/\c=LuteHand.weight ws 8 * (g0.pos-1))∨0<i/\∃h g,hs[i-1]?=some h/\l[i-1]?=some g/\LuteHand.cost ws hs l=c+LM.costF ws h g (hs.drop i) (l.drop i)))
   ⟨none,none,_,rfl,Same.refl H,.inl ⟨rfl,rfl⟩⟩ (fun i σ H' ⟨_,_,_,_,z,_⟩=>SqL.of (z _ _ hq1)) ?_ ?_⟩
  ·rintro i v σ H' t hv ⟨v4,v5,c,rfl,s1,hinv⟩ ht
   obtain⟨x,hx,hmom⟩:=aI hq2 hv
   have hi:i<hs.length:=by have:=(List.getElem?_eq_some_iff.mp hv).1;omega
   obtain⟨h,hh⟩:∃h,hs[i]?=some h:=⟨_,List.getElem?_eq_getElem hi⟩
   obtain⟨g,hg⟩:∃g,l[i]?=some g:=⟨_,List.getElem?_eq_getElem (by omega)⟩
   obtain⟨ga,hga⟩:∃ga,gv[i]?=some ga:=⟨_,List.getElem?_eq_getElem (by rw[hg2.length];omega)⟩
   obtain⟨g',hg',hgat⟩:=aI hg2 hga
   rw[hg] at hg'
   cases hg'
   rw[LM.withPrev_at hh] at hx
   have okx:=okm _ (List.mem_of_getElem? (LM.withPrev_at (p:=[]) hh))
   generalize hb:(if i=0 then ([]:List LuteHand.Held) else (hs[i-1]?).getD [])=b at hx okx
   cases hx
   obtain⟨m,dx,sp,tp,rfl,hm,hsp,htp,_,_⟩:=hmom
   have s2:Same H (upd H' t (.tup [.int (i:Nat),.ref m])):=s1.new ht
   have okg:=hok i g h hg hh
   have hd1:hs.drop i=h::hs.drop (i+1):=by
    rw[List.drop_eq_getElem_cons hi]
    congr 1
    exact (List.getElem?_eq_some_iff.mp hh).2
   have hd2:l.drop i=g::l.drop (i+1):=by
    rw[List.drop_eq_getElem_cons (by omega)]
    congr 1
    exact (List.getElem?_eq_some_iff.mp hg).2
   refine⟨t,_,rfl,SqT.of ac,rfl,_,_,rfl,_,_,rfl,rfl,?_⟩
   generalize upd H' t (.tup [.int (i:Nat),.ref m])=H1 at s2
   refine⟨_,rfl,_,rfl,m,CM,dx,_,_,rfl,s2 _ _ hm,KM.cl,KM.no _ (by simp),eX nq,_,rfl,_,rfl,gl,_,_,_,rfl,rfl,SqL.of (s2 _ _ hg1),az hga,_,rfl,?_⟩
   refine⟨sp,ga,wp,h,g,ws,rfl,hsp.same s2,hgat.mono (Same.tup s2),W.same s2,okg,_,_,rfl,rfl,?_⟩
   refine⟨_,rfl,_,_,rfl,rfl,_,rfl,ite2 (fun y=>?_) fun y=>?_⟩
   ·have i1:0<i:=by have:(0:Int)<(i:Nat):=of_decide_eq_true y;omega
    rcases hinv with ⟨z,_⟩ | ⟨ip,h',g',a1,a2,a3⟩
    ·omega
    have okg':=hok (i-1) g' h' a2 a1
    obtain⟨ga',hga'⟩:∃ga,gv[i-1]?=some ga:=⟨_,List.getElem?_eq_getElem (by rw[hg2.length];omega)⟩
    obtain⟨g2,hg2',hgat'⟩:=aI hg2 hga'
    rw[a2] at hg2'
    cases hg2'
    obtain⟨mw,hmw⟩:∃mw,mv[i-1]?=some mw:=⟨_,List.getElem?_eq_getElem (by omega)⟩
    obtain⟨x',hx',hmom'⟩:=aI hq2 hmw
    rw[LM.withPrev_at a1] at hx'
    obtain⟨m',dx',sp',tp',rfl,hm',hsp',_,_,_⟩:=hmom'
    have ex':x'.2=h':=by rw[← Option.some.inj hx']
    rw[ex'] at hsp'
    have ei:((i:Nat):Int)-1=((i-1:Nat):Int):=by omega
    have eb:b=h':=by rw[← hb,if_neg (by omega),a1];rfl
    subst eb
    refine⟨_,rfl,_,rfl,_,rfl,_,_,rfl,rfl,q,_,_,_,rfl,rfl,SqL.of (s2 _ _ hq1),by rw[ei];exact az hmw,m',CM,dx',_,_,rfl,s2 _ _ hm',KM.cl,KM.no _ (by simp),eX nq,?_⟩
    refine⟨_,rfl,_,rfl,_,_,rfl,rfl,gl,_,_,_,rfl,rfl,SqL.of (s2 _ _ hg1),by rw[ei];exact az hga',_,rfl,m,CM,dx,_,_,rfl,s2 _ _ hm,KM.cl,KM.no _ (by simp),eX nq,_,rfl,_,rfl,gl,_,_,_,rfl,rfl,SqL.of (s2 _ _ hg1),az hga,_,rfl,?_⟩
    refine⟨sp',sp,wp,ga',ga,b,h,g',g,ws,rfl,hsp'.same s2,hsp.same s2,hgat'.mono (Same.tup s2),hgat.mono (Same.tup s2),W.same s2,(LM.ok_all okg').2.2.1,(LM.ok_all okg).2.2.1,Nat.le_trans okx.1.len (by decide),Nat.le_trans okx.2.1.len (by decide),fun H3 s3=>?_⟩
    refine⟨_,_,rfl,rfl,_,_,c+LuteHand.gripCost ws h g+LuteHand.goingCost ws b h g' g,rfl,s2.trans s3,.inr ⟨Nat.succ_pos _,h,g,by simpa using hh,by simpa using hg,?_⟩⟩
    rw[a3,hd1,hd2]
    show c+(LuteHand.gripCost ws h g+LuteHand.goingCost ws b h g' g+LM.costF ws h g (hs.drop (i+1)) (l.drop (i+1)))=_
    omega
   ·have i0:i=0:=by have:¬(0:Int)<(i:Nat):=fun u=>y (decide_eq_true u);omega
    subst i0
    rcases hinv with ⟨_,rfl⟩ | ⟨ip,h',g',a1,a2,a3⟩
    ·rw[hh0] at hh
     rw[hg0] at hg
     cases hh
     cases hg
     refine⟨_,_,LuteHand.weight ws 8 * (g0.pos-1)+LuteHand.gripCost ws h0 g0,rfl,s2,.inr ⟨Nat.succ_pos _,h0,g0,hh0,hg0,?_⟩⟩
     have e1:hs=h0::hs.drop 1:=by simpa using hd1
     have e2:l=g0::l.drop 1:=by simpa using hd2
     have:=LM.cost_cons ws h0 g0 (hs.drop 1) (l.drop 1) (by simp[hll])
     rw[← e1,← e2] at this
     exact this
    ·exact absurd ip (Nat.lt_irrefl 0)
  ·rintro σ H' ⟨v4,v5,c,rfl,s1,hinv⟩
   rcases hinv with ⟨z,_⟩ | ⟨_,h,g,a1,a2,a3⟩
   ·omega
   ·have e1:hs.drop mv.length=[]:=by rw[List.drop_eq_nil_iff];omega
    rw[e1] at a3
    have e2:LM.costF ws h g [] (l.drop mv.length)=0:=rfl
    rw[e2,Nat.add_zero] at a3
    rw[a3] at k
    exact⟨_,rfl,k H' s1⟩
end
def vV (l:List Nat):Prop:=∀c∈l,c<128
theorem i5:∀c:Nat,c<128->Unicode.isDigit c=LM.dig c:=by decide +kernel
theorem tf {l:List Nat} (h:vV l):Txt.isdigit (T l)=(!l.isEmpty&&l.all LM.dig):=by
 have e1:(T l).cps.all Unicode.isDigit=l.all LM.dig:=by
  show l.toArray.all Unicode.isDigit=_
  rw[show l.toArray.all Unicode.isDigit=l.all Unicode.isDigit by simp]
  rw[Bool.eq_iff_iff,List.all_eq_true,List.all_eq_true]
  constructor
  ·intro q c hc
   rw[← i5 c (h c hc)]
   exact q c hc
  ·intro q c hc
   rw[i5 c (h c hc)]
   exact q c hc
 unfold Txt.isdigit
 rw[e1,bi]
 cases l with
 | nil=>rfl
 | cons a l=>simp
theorem zr:∀a:Nat,a<10->PySem.intText? (T [48+a])=some ((LM.valN [48+a]:Nat):Int):=by decide +kernel
theorem zp:∀a:Nat,a<10->∀b:Nat,b<10->PySem.intText? (T [48+a,48+b])=some ((LM.valN [48+a,48+b]:Nat):Int):=by decide +kernel
theorem zo:∀a:Nat,a<10->∀b:Nat,b<10->∀c:Nat,c<10->PySem.intText? (T [48+a,48+b,48+c])=some ((LM.valN [48+a,48+b,48+c]:Nat):Int):=by decide +kernel
theorem iE {c:Nat} (h:LM.dig c=true):∃a,a<10/\c=48+a:=by
 unfold LM.dig at h
 simp only[Bool.and_eq_true,decide_eq_true_eq] at h
 exact⟨c-48,by omega,by omega⟩
theorem mK {l:List Nat} (h:LM.isNum l=true):l.length<=3:=by
 unfold LM.isNum at h
 simp only[Bool.and_eq_true,decide_eq_true_eq] at h
 exact h.2.2.1
theorem rc {l:List Nat} (h:LM.isNum l=true):PySem.intText? (T l)=some ((LM.valN l:Nat):Int):=by
 have h3:=mK h
 unfold LM.isNum at h
 simp only[Bool.and_eq_true,List.all_eq_true] at h
 obtain⟨h1,h2,_⟩:=h
 match l,h1,h2,h3 with
 | [a],_,h2,_ =>
  obtain⟨a,ha,rfl⟩:=iE (h2 a (by simp))
  exact zr a ha
 | [a,b],_,h2,_ =>
  obtain⟨a,ha,rfl⟩:=iE (h2 a (by simp))
  obtain⟨b,hb,rfl⟩:=iE (h2 b (by simp))
  exact zp a ha b hb
 | [a,b,c],_,h2,_ =>
  obtain⟨a,ha,rfl⟩:=iE (h2 a (by simp))
  obtain⟨b,hb,rfl⟩:=iE (h2 b (by simp))
  obtain⟨c,hc,rfl⟩:=iE (h2 c (by simp))
  exact zo a ha b hb c hc
abbrev nG:Stmt:=top 68
abbrev n0:List Str:=["text"]
def um:Sp:=fun vs H Q _=>∃l:List Nat,vs=[.str (T l)]/\l.length<=100002/\vV l/\Q (.bl (LM.isNum l)) H
section
variable {P:Program}{w:World}{K:W.Frag}{mg:Str->Option Value}{base:Heap}
theorem zc:FnScope n0 n0 (ad nG):=⟨rfl,rfl,rfl,by decide +kernel,rfl,by decide +kernel,by decide +kernel⟩
theorem yq {f0:Addr}{fd:FuncData} (D:Df K mg "is_number" nG n0 f0 fd) (gM:GV mg "MOST_DIGITS" (.int 3)) (gL:mg "len" = none):FnOk P w K mg base CX0 1 f0 fd n0 um:=by
 refine D.fn.ok zc (fun vs H Q E h=>?_) (fun cdv A outer s0 H vs Q E hr h=>?_)
 ·obtain⟨_,rfl,_⟩:=h
  rfl
 ·obtain⟨l,rfl,hl,ha,k⟩:=h
  have hsz:(T l).length<=sizeLine:=by rw[bi];exact Nat.le_trans hl (by decide)
  refine⟨_,ae (aM (PW.pt (lz (ie (cY (zk F.slot_str_isdigit F.type_str_isdigit pO (pv 0)))) (jG (aq dg (aR cv (by rfl) gL PySem.boot_len (aa (pv 0) ag)) (bc gM rfl) (nomark _))))) (ah (aA xI)) aw)
   (ah (aA (zj (bI bz (pv 0) aQ (nomark _)) (mG (bI jO (aJ mQ (pv 0) ao (fun _ _=>rfl)) aQ (nomark _)))))),?_⟩
  refine⟨_,rfl,⟨_,rfl⟩,T l,rfl,rfl,trivial,_,rfl,?_⟩
  rw[tf ha]
  refine ite2 (fun z=>?_) fun z=>?_
  ·have e:LM.isNum l=false:=by
    unfold LM.isNum
    have z':(!l.isEmpty&&l.all LM.dig)=false:=by
     cases hb:(!l.isEmpty&&l.all LM.dig) with
     | true=>rw[hb] at z;cases z
     | false=>rfl
    rw[← Bool.and_assoc,z']
    rfl
   rw[e] at k
   exact gH rfl k
  ·have z':(!l.isEmpty&&l.all LM.dig)=true:=by
    cases hb:(!l.isEmpty&&l.all LM.dig) with
    | false=>rw[hb] at z;exact absurd rfl z
    | true=>rfl
   refine⟨_,rfl,T l,rfl,hsz,_,_,rfl,rfl,_,rfl,?_⟩
   rw[bi]
   refine ite2 (fun y=>?_) fun y=>?_
   ·have y':(3:Int)<(l.length:Nat):=of_decide_eq_true y
    have e:LM.isNum l=false:=by
     unfold LM.isNum
     rw[← Bool.and_assoc,z',decide_eq_false (show ¬l.length<=3 by omega)]
     rfl
    rw[e] at k
    exact k
   ·have y':¬(3:Int)<(l.length:Nat):=fun q=>y (decide_eq_true q)
    have e:LM.isNum l=(decide (l=[48]) || !decide (l.head?=some 48)):=by
     unfold LM.isNum
     rw[← Bool.and_assoc,z',decide_eq_true (show l.length<=3 by omega)]
     rfl
    rw[e] at k
    refine⟨_,rfl,rfl,_,rfl,?_⟩
    have e0:decide (V.str (T l)=V.str (T [48]))=decide (l=[48]):=by
     rw[Bool.eq_iff_iff,decide_eq_true_eq,decide_eq_true_eq]
     exact strT_eq
    rw[show decide (V.str (T l)=V.str ("0":Str))=decide (V.str (T l)=V.str (T [48])) from rfl,e0]
    refine ite2 (fun x=>?_) fun x=>?_
    ·rw[x,Bool.true_or] at k
     exact k
    ·have x':decide (l=[48])=false:=by simpa using x
     rw[x',Bool.false_or] at k
     cases l with
     | nil=>simp at z'
     | cons c l =>
      refine⟨_,rfl,T (c::l),0,c,rfl,rfl,hsz,az (j:=0) rfl,rfl,?_⟩
      have e1:(!decide (V.str (T [c])=V.str (T [48])))=!decide ((c::l).head?=some 48):=by
       congr 1
       rw[Bool.eq_iff_iff,decide_eq_true_eq,decide_eq_true_eq]
       refine strT_eq.trans ?_
       simp
      rw[← e1] at k
      exact k
theorem ug:∀n:Nat,n<10->(toString ((n:Nat):Int):Str)=T [48+n]:=by decide +kernel
theorem pq:∀n:Nat,n<10->((n:Nat):Int).natAbs.log2<1920:=by decide +kernel
theorem kO (a b:List Nat):T a++T b=T (a++b):=by
 refine p0 ?_
 rw[ia]
 rfl
theorem uh (a b:List Nat):Txt.startswith (T a) (T b)=b.isPrefixOf a:=by
 unfold Txt.startswith
 rw[bi,bi,Nat.zero_add]
 have e:Builtin.Str.subAt (T a) (T b) 0=decide (a.take b.length=b):=by
  unfold Builtin.Str.subAt
  rw[bi]
  show (a.toArray.extract 0 (0+b.length)==b.toArray)=_
  rw[Bool.eq_iff_iff,beq_iff_eq,decide_eq_true_eq]
  simp
 rw[e,Bool.eq_iff_iff,Bool.and_eq_true,decide_eq_true_eq,decide_eq_true_eq,List.isPrefixOf_iff_prefix,List.prefix_iff_eq_take]
 constructor
 ·rintro⟨_,h⟩
  exact h.symm
 ·intro h
  refine⟨?_,h.symm⟩
  have:=congrArg List.length h
  rw[List.length_take] at this
  omega
def pK:Option Nat->V
 | none=>.non
 | some p=>.int (p:Nat)
abbrev jC:Stmt:=top 69
abbrev dh:List Str:=["part","course","head","number"]
def pk:Sp:=fun vs H Q _=>∃(l:List Nat) (c:Nat),vs=[.str (T l),.int (c:Nat)]/\l.length<=100002/\vV l/\c<10/\Q (pK (LM.mFing l c)) H
theorem scFing:FnScope dh ["part","course"] (ad jC):=⟨rfl,rfl,rfl,by decide +kernel,rfl,by decide +kernel,by decide +kernel⟩
theorem o5:bootBuiltins "int" = some (.type "int"):=by decide +kernel
theorem wO {f0 fN:Addr}{fd fdN:FuncData} (D:Df K mg "read_finger" jC ["part","course"] f0 fd) (DN:Df K mg "is_number" nG n0 fN fdN) (GN:FnOk P w K mg base CX0 1 fN fdN n0 um) (gL:mg "len" = none) (gI:mg "int" = none):FnOk P w K mg base CX0 2 f0 fd ["part","course"] pk:=by
 refine D.fn.ok scFing (fun vs H Q E h=>?_) (fun cdv A outer s0 H vs Q E hr h=>?_)
 ·obtain⟨_,_,rfl,_⟩:=h
  rfl
 ·obtain⟨l,c,rfl,hl,ha,hc,k⟩:=h
  have hsz:(T l).length<=sizeLine:=by rw[bi];exact Nat.le_trans hl (by decide)
  refine⟨_,ae (aG (i:=2) scFing.nd rfl (Or.inl rfl) (sr (qL (yl (pv 1)) (qL aQ yg))))
   (ae (aM (ie (cY (lC F.slot_str_startswith F.type_str_startswith lc (pv 0) (pv 2)))) (ah (aA cE)) aw)
   (ae (aG (i:=3) scFing.nd rfl (Or.inl rfl) (bp fD (pv 0) (bC (aR cv (by rfl) gL PySem.boot_len (aa (pv 2) ag))) bQ))
   (ah (aA (uQ (cY (aE GN hr rfl DN.at_ DN.fn.kp DN.b .nil pass0 (aa (pv 3) ag))) (ij hU rfl gI o5 (aa (pv 3) ag)) cE))))),?_⟩
  refine⟨_,rfl,_,rfl,pq c hc,?_⟩
  rw[ug c hc]
  refine⟨_,rfl,?_,?_⟩
  ·rw[show (Str.empty:Str)=T [] from rfl,kO,bi]
   show 1<=sizeLine
   decide
  rw[show (Str.empty:Str)=T [] from rfl,kO,List.nil_append]
  refine⟨T [58],rfl,?_,?_,?_⟩
  ·rw[kO,bi]
   show 2<=sizeLine
   decide
  ·rw[kO,bi]
   show 2<=sizeLine
   decide
  rw[kO,show ([48+c]++[58]:List Nat)=LM.headN c from rfl]
  refine⟨_,rfl,⟨_,rfl⟩,_,rfl,T l,T (LM.headN c),rfl,rfl,_,rfl,?_⟩
  rw[uh]
  unfold LM.mFing at k
  refine ite2 (fun z=>?_) fun z=>?_
  ·have z':(LM.headN c).isPrefixOf l=false:=by simpa using z
   rw[if_neg (by rw[z'];simp)] at k
   exact k
  ·have z':(LM.headN c).isPrefixOf l=true:=by
    cases hb:(LM.headN c).isPrefixOf l with
    | true=>rfl
    | false=>rw[hb] at z;exact absurd rfl z
   rw[if_pos z'] at k
   refine⟨_,rfl,_,rfl,T (LM.headN c),rfl,?_,_,rfl,T l,rfl,hsz,?_⟩
   ·rw[bi]
    show 2<=sizeLine
    decide
   rw[show mZ (T l) (some ((T (LM.headN c)).length:Int)) none=T (l.drop 2) from eP l 2]
   have hd:(l.drop 2).length<=100002:=by rw[List.length_drop];omega
   refine⟨_,rfl,l.drop 2,rfl,hd,fun x hx=>ha x (List.mem_of_mem_drop hx),_,rfl,?_⟩
   refine ite2 (fun y=>?_) fun y=>?_
   ·rw[if_pos y] at k
    exact⟨_,rfl,T (l.drop 2),_,rfl,rc y,by rw[bi];exact Nat.le_trans (mK y) (by decide),k⟩
   ·rw[if_neg y] at k
    exact k
end
theorem ms (d:Nat):∀(l:List Nat),∀p∈LM.spl d l,∀c∈p,c∈l
 | [],p,hp,c,hc=>by
  have:LM.spl d []=[[]]:=rfl
  rw[this] at hp
  simp at hp
  subst hp
  simp at hc
 | x::l,p,hp,c,hc=>by
  have ih:=ms d l
  by_cases e:x=d
  ·subst e
   rw[LM.spl_hit] at hp
   rcases List.mem_cons.mp hp with rfl | hp
   ·simp at hc
   ·exact List.mem_cons_of_mem _ (ih p hp c hc)
  ·unfold LM.spl at hp
   rw[if_neg e] at hp
   cases h2:LM.spl d l with
   | nil=>exact absurd h2 (LM.spl_ne _ _)
   | cons a r =>
    rw[h2] at hp ih
    rcases List.mem_cons.mp hp with rfl | hp
    ·rcases List.mem_cons.mp hc with rfl | hc
     ·simp
     ·exact List.mem_cons_of_mem _ (ih a (by simp) c hc)
    ·exact List.mem_cons_of_mem _ (ih p (by simp[hp]) c hc)
def bt (h:List LuteHand.Held) (ps:List (List Nat)):List (Option Nat):=List.zipWith (fun p (s:LuteHand.Held)=>LM.mFing p s.halt_.course) ps h
theorem j0:∀(h:List LuteHand.Held) (ps:List (List Nat)),ps.length=h.length->LM.mFings h ps=if none∈bt h ps then none else some ((bt h ps).map (·.getD 0))
 | [],[],_=>by simp[LM.mFings,bt]
 | s::r,p::ps,hl=>by
  have ih:=j0 r ps (by simpa using hl)
  have e:bt (s::r) (p::ps)=LM.mFing p s.halt_.course::bt r ps:=rfl
  rw[e]
  unfold LM.mFings
  cases h1:LM.mFing p s.halt_.course with
  | none=>simp
  | some f =>
   dsimp only
   rw[ih]
   by_cases h2:none∈bt r ps
   ·rw[if_pos h2,if_pos (by simp[h2])]
    rfl
   ·rw[if_neg h2,if_neg (by simp[h2])]
    rfl
 | [],_::_,hl=>by simp at hl
 | _::_,[],hl=>by simp at hl
theorem j3:∀{h:List LuteHand.Held}{ps:List (List Nat)},ps.length≠h.length->LM.mFings h ps=none
 | [],[],hl=>absurd rfl hl
 | s::r,p::ps,hl=>by
  have ih:=j3 (h:=r) (ps:=ps) (by simpa using hl)
  unfold LM.mFings
  cases LM.mFing p s.halt_.course with
  | none=>rfl
  | some f=>dsimp only;rw[ih];rfl
 | [],_::_,_=>rfl
 | _::_,[],_=>rfl
theorem rf:∀l:List (Option Nat),inV .non (l.map pK)=decide (none∈l)
 | []=>rfl
 | a::l=>by
  have ih:=rf l
  unfold inV at ih ⊢
  rw[List.map_cons,List.any_cons,ih]
  cases a with
  | none=>simp[pK,eqV]
  | some n=>simp[pK,eqV]
theorem tK (l:List (Option Nat)):(l.map pK).all flatV=true:=by
 rw[List.all_eq_true]
 intro v hv
 obtain⟨n,_,rfl⟩:=List.mem_map.mp hv
 cases n <;> rfl
theorem qS:∀{l:List (Option Nat)},none∉l->l.map pK=fv (l.map (·.getD 0))
 | [],_=>rfl
 | none::l,h=>absurd (by simp) h
 | some n::l,h=>by
  have ih:=qS (l:=l) fun z=>h (by simp[z])
  unfold fv at ih ⊢
  rw[List.map_cons,ih]
  rfl
abbrev iQ:Stmt:=top 70
abbrev xL:List Str:=["row","stops","parts","fingers","part","stop"]
def ul:Sp:=fun vs H Q _=>∃(l:List Nat) (sp:Addr) (h:List LuteHand.Held),vs=[.str (T l),.ref sp]/\l.length<=100000/\vV l/\StopsAt H sp (h.map LM.pr)/\LM.okHeld h/\(match LM.mRow h l with
  | none=>∀H',Same H H'->Q .non H'
  | some g=>∀H' t,Same H H'->GripAt H' (.ref t) g->Q (.ref t) H')
section
variable {P:Program}{w:World}{K:W.Frag}{mg:Str->Option Value}{base:Heap}
theorem scRRow:FnScope xL ["row","stops"] (ad iQ):=⟨rfl,rfl,rfl,by decide +kernel,rfl,by decide +kernel,by decide +kernel⟩
theorem qc:bootBuiltins "tuple" = some (.type "tuple"):=by decide +kernel
theorem wJ {f0 fN fF:Addr}{fd fdN fdF:FuncData} (D:Df K mg "read_row" iQ ["row","stops"] f0 fd) (DN:Df K mg "is_number" nG n0 fN fdN) (DF:Df K mg "read_finger" jC ["part","course"] fF fdF)
  (GN:FnOk P w K mg base CX0 1 fN fdN n0 um) (GF:FnOk P w K mg base CX0 2 fF fdF ["part","course"] pk) (gL:mg "len" = none) (gZ:mg "zip" = none) (gI:mg "int" = none) (gT:mg "tuple" = none):FnOk P w K mg base CX0 3 f0 fd ["row","stops"] ul:=by
 refine D.fn.ok scRRow (fun vs H Q E h=>?_) (fun cdv A outer s0 H vs Q E hr h=>?_)
 ·obtain⟨_,_,_,rfl,_⟩:=h
  rfl
 ·obtain⟨l,sp,h,rfl,hl,ha,⟨sv,hs1,hs2⟩,okh,k⟩:=h
  have h6:=okh.len
  refine⟨_,ae (aG (i:=2) scRRow.nd rfl (Or.inl rfl) (dX (pv 0) aQ))
   (ae (aM (PW.pt (lz (aq jO (aR aZ (by rfl) gL PySem.boot_len (aa (pv 2) ag)) (bb cj ao (aR aZ (by rfl) gL PySem.boot_len (aa (pv 1) ag))) (nomark _)) (jG (ie (cY (aE GN (hr.mono (by decide)) rfl DN.at_ DN.fn.kp DN.b .nil pass0 (aa (aJ aY (pv 2) ao (fun _ _=>rfl)) ag))))))) (ah (aA cE)) aw)
   (ae (gp (i:=3) (g:=tG K 2 (eq (cH 4) (eq (cH 5) tH))) (te:=uf pk [] E0 (nk (jb 4) (nk (tOp (sf K) (jb 5) (tC (.int 0))) xU))) (own:=[("part",4),("stop",5)]) rfl scRRow.nd rfl rfl (jh rfl rfl rfl rfl) (uO rfl gZ (aa (bp gn (pv 2) (bC ao) bQ) (aa (pv 1) ag))) (BlkOk.mk (N:=xL) (sc:=ad iQ) rfl (by decide +kernel) (by decide +kernel) (by decide +kernel) (by decide +kernel))
    (fun _ _ _ _ _=>bV (n:=2) rfl (aO (aD (i:=4) scRRow.nd rfl (Or.inl rfl)) (aO (aD (i:=5) scRRow.nd rfl (Or.inl rfl)) bD))) (fun _ _ _ _ _=>cr)
    (fun _ _ _ _ _=>aE GF hr rfl DF.at_ DF.fn.kp DF.b .nil pass0 (aa (pv 4) (aa (aJ aX (pv 5) ao (fun _ _=>rfl)) ag))))
   (ae (aM (aq df cE (pv 3) rfl) (ah (aA cE)) aw)
   (ah (aA (bW (aa (ij hU rfl gI o5 (aa (aJ aY (pv 2) ao (fun _ _=>rfl)) ag)) (aa (ij lf rfl gT qc (aa (pv 3) ag)) ag)))))))),?_⟩
  refine⟨_,rfl,⟨_,rfl⟩,T l,T [32],rfl,rfl,rfl,?_,fun pp hpp=>?_⟩
  ·rw[bi];exact Nat.le_trans (Nat.add_le_add_right hl 2) (by decide)
  rw[gm 32 (by decide)]
  have hpl:=bO 32 l
  have hsl:=dq 32 l
  have hsub:=ms 32 l
  obtain⟨hd,ps,e1⟩:∃a r,LM.spl 32 l=a::r:=by
   cases h:LM.spl 32 l with
   | nil=>exact absurd h (LM.spl_ne _ _)
   | cons a r=>exact⟨a,r,rfl⟩
  have eM:LM.mRow h l=if LM.isNum hd=true then (LM.mFings h ps).map fun l=>⟨LM.valN hd,l⟩ else none:=by
   unfold LM.mRow
   rw[e1]
  rw[e1] at hpl hsl hsub
  rw[e1]
  have ev:((hd::ps).map T).map V.str=.str (T hd)::tv ps:=by
   rw[List.map_cons,List.map_cons,List.map_map]
   rfl
  rw[ev]
  have s1:Same H (upd H pp (.lst (.str (T hd)::tv ps))):=Same.new (Same.refl H) hpp
  have hp1:upd H pp (.lst (.str (T hd)::tv ps)) pp=some (.lst (.str (T hd)::tv ps)):=ac
  generalize upd H pp (.lst (.str (T hd)::tv ps))=H1 at s1 hp1
  have htl:(V.str (T hd)::tv ps).length=ps.length+1:=by simp[tv]
  have hsvl:sv.length=h.length:=by rw[hs2.length,List.length_map]
  refine⟨_,rfl,pp,_,rfl,.inl (SqL.of hp1),_,rfl,sp,_,rfl,.inl (SqL.of (s1 _ _ hs1)),_,_,rfl,rfl,rfl,_,rfl,?_⟩
  rw[htl,hsvl]
  refine ite2 (fun z=>?_) fun z=>?_
  ·have hne:ps.length≠h.length:=fun q=>by
    have:¬V.int ((ps.length+1:Nat):Int)=V.int (1+((h.length:Nat):Int)):=by simpa using z
    exact this (by rw[q];congr 1;omega)
   rw[eM,j3 hne] at k
   have k':∀H',Same H H'->Q .non H':=by
    cases hb:LM.isNum hd with
    | true=>rw[hb] at k;exact k
    | false=>rw[hb] at k;exact k
   exact gH rfl (k' H1 s1)
  ·have heq:ps.length=h.length:=by
    have:V.int ((ps.length+1:Nat):Int)=V.int (1+((h.length:Nat):Int)):=by simpa using z
    injection this with this
    omega
   refine⟨_,rfl,pp,_,_,_,rfl,rfl,SqL.of hp1,az (j:=0) rfl,hd,rfl,?_,fun c hc=>ha c (hsub hd (by simp) c hc),_,rfl,?_⟩
   ·have:=hpl hd (by simp)
    omega
   refine ite2 (fun y=>?_) fun y=>?_
   ·have y':LM.isNum hd=false:=by simpa using y
    rw[eM,if_neg (by rw[y'];simp)] at k
    exact k H1 s1
   ·have y':LM.isNum hd=true:=by
     cases hb:LM.isNum hd with
     | true=>rfl
     | false=>rw[hb] at y;exact absurd rfl y
    rw[eM,if_pos y',j0 h ps heq] at k
    refine⟨_,rfl,_,rfl,pp,_,rfl,SqL.of hp1,fun q hq=>?_⟩
    have e2:zdl (.str (T hd)::tv ps) (some 1) none=tv ps:=eO _ _
    rw[e2]
    have s2:Same H1 (upd H1 q (.lst (tv ps))):=Same.new (Same.refl H1) hq
    have hq2:upd H1 q (.lst (tv ps)) q=some (.lst (tv ps)):=ac
    generalize upd H1 q (.lst (tv ps))=H2 at s2 hq2
    have s12:=s1.trans s2
    have htv:(tv ps).length=ps.length:=by simp[tv]
    have hmin:min (tv ps).length sv.length=ps.length:=by omega
    have hfl:(bt h ps).length=ps.length:=by
     unfold bt
     rw[List.length_zipWith]
     omega
    refine⟨_,rfl,q,sp,_,_,rfl,SqL.of hq2,SqL.of (s12 _ _ hs1),fun R hR=>?_⟩
    refine yC (K:=K) (a:=q) (b:=sp) (xs:=tv ps) (ys:=sv) hmin (fun i H3=>H3 R=some (.lst (((bt h ps).take i).map pK))/\Same H2 H3) ⟨ac,Same.new (Same.refl H2) hR⟩ (fun i H3 ⟨_,z⟩=>⟨SqL.of (z _ _ hq2),SqL.of (z _ _ (s12 _ _ hs1))⟩) ?_ ?_
    ·rintro i v u H3 t hv hu ⟨g1,g2⟩ ht
     rw[List.getElem?_map] at hv
     obtain⟨p,hp,rfl⟩:=Option.map_eq_some_iff.mp hv
     obtain⟨y0,hy0,a,rfl,hav⟩:=aI hs2 hu
     rw[List.getElem?_map] at hy0
     obtain⟨x,hx,ex⟩:=Option.map_eq_some_iff.mp hy0
     subst ex
     have hil:=(List.getElem?_eq_some_iff.mp hp).1
     have hpm:=List.mem_of_getElem? hp
     have hc:=(okh.in_ x (List.mem_of_getElem? hx)).2.1
     have s3:Same H3 (upd H3 t (.tup [.str (T p),.ref a])):=Same.new (Same.refl H3) ht
     refine⟨t,_,rfl,SqT.of ac,rfl,_,_,rfl,_,_,rfl,rfl,rfl,mn ?_⟩
     refine⟨_,rfl,_,rfl,a,_,_,_,rfl,rfl,SqT.of (s3 _ _ (g2 _ _ (s12 _ _ hav))),az (j:=0) rfl,p,x.halt_.course,rfl,?_,fun c hc=>ha c (hsub p (by simp[hpm]) c hc),by omega,?_⟩
     ·have:=hpl p (by simp[hpm])
      omega
     have hz:(bt h ps)[i]?=some (LM.mFing p x.halt_.course):=by
      unfold bt
      rw[List.getElem?_zipWith,hp,hx]
     refine⟨_,s3 _ _ g1,?_,?_,fun c o e=>by rw[ai (af e hR)];exact s3 _ _ (g2 c o e)⟩
     ·rw[List.length_map,List.length_take]
      exact Nat.lt_of_le_of_lt (Nat.min_le_right _ _) (Nat.lt_of_le_of_lt (show (bt h ps).length<=6 by omega) (by decide))
     ·rw[ac,aT hz,List.map_append]
      rfl
    ·rintro H3 ⟨g1,g2⟩
     rw[← hfl,List.take_length] at g1
     have s3:=s12.trans g2
     refine⟨_,rfl,R,_,rfl,.inl (SqL.of g1),rfl,tK _,_,rfl,?_⟩
     rw[if_neg (by simp),rf]
     refine ite2 (fun x=>?_) fun x=>?_
     ·have x':none∈bt h ps:=of_decide_eq_true x
      rw[if_pos x'] at k
      exact k H3 s3
     ·have x':none∉bt h ps:=fun q=>x (decide_eq_true q)
      rw[if_neg x'] at k
      refine⟨_,rfl,pp,_,_,_,rfl,rfl,SqL.of (g2 _ _ (s2 _ _ hp1)),az (j:=0) rfl,T hd,_,rfl,rc y',by rw[bi];exact Nat.le_trans (mK y') (by decide),?_⟩
      refine⟨_,rfl,R,_,rfl,.inl ⟨SqL.of g1,fun ft hft=>?_⟩⟩
      refine⟨by show 2<=sizeLine;decide,fun t ht=>?_⟩
      have ftt:ft≠t:=af ac ht
      refine k _ t ((s3.new hft).new ht) ⟨t,ft,rfl,ac,?_⟩
      rw[ai ftt,ac,qS x']
end
abbrev lx:Stmt:=mS (top 67) 0
abbrev n6:List Str:=["self","line"]
structure KNpt (K:W.Frag) (mg:Str->Option Value) (C f:Addr) (fd:FuncData):Prop where
 at_:mg "NoPlanText" = some (.ref C)
 exc:ld K C f "line" = true
 kp:W.keepIn K (.ref C)=true
 fn:Fun K "__init__" "NoPlanText.__init__" lx f fd
 b:Binds K fd n6 []
theorem qW:typeLookup (.type "Exception") "line" = pure none:=by rw[typeLookup_type,builtinLookup_eq_fast];kernel_rfl
section
variable {P:Program}{w:World}{K:W.Frag}{mg:Str->Option Value}{base:Heap}
theorem yb:FnScope n6 n6 (ad lx):=⟨rfl,rfl,rfl,by decide +kernel,rfl,by decide +kernel,by decide +kernel⟩
theorem wK {C f:Addr}{fd:FuncData} (D:KNpt K mg C f fd):FnOk P w K mg base CX0 1 f fd n6 (mz C "line"):=by
 refine D.fn.ok yb (fun vs H Q E h=>?_) (fun cdv A outer s H vs Q E hr h=>?_)
 ·obtain⟨_,_,_,rfl,_⟩:=h
  rfl
 ·obtain⟨e,t,v,rfl,he,k⟩:=h
  refine⟨_,ah (wx D.exc qW (pv 0) (pv 1) rfl),?_⟩
  exact⟨_,rfl,_,rfl,e,_,rfl,he,fun dx d1 d2=>k dx d1 d2⟩
end
theorem tQ (n:Nat):LM.cleanIn LM.PS n<128:=by
 unfold LM.cleanIn
 split
 ·next h =>
  have:∀x∈LM.PS,x<128:=by decide
  exact this n h
 ·decide
theorem vS (xs:List V):zdl xs none (some (-1))=xs.dropLast:=by
 unfold zdl
 have e2:HT.sIx xs.length xs.length (some (-1))=xs.length-1:=by
  show (if (-1:Int)<0 then ((-1:Int)+(xs.length:Nat)).toNat else min (-1:Int).toNat xs.length)=_
  rw[if_pos (by decide)]
  omega
 have e1:HT.sIx xs.length 0 none=0:=rfl
 rw[e1,e2]
 show xs.take (xs.length-1)=xs.dropLast
 rw[List.dropLast_eq_take]
abbrev fQ:Stmt:=top 71
abbrev wV:Str:="SIGNS_plantexts"
abbrev yt:List Str:=["moments","codes","rows","ended","told","number","row","grip"]
def my (K:W.Frag) (CM C:Addr):Sp:=fun vs H Q E=>∃(q a:Addr) (hs:List (List LuteHand.Held)) (ns:List Nat),vs=[.ref q,.ref a]/\MomentsAt CM H q hs/\(∀x∈LM.withPrev [] hs,LM.okMom x)/\hs.length<=512/\SqL K H a (ns.map fun (n:Nat)=>V.int (n:Int))/\ns.length<=100000 /\
 (match LM.mPlan hs (ns.map (LM.cleanIn LM.PS)) with
  | .error i=>∀H' dx,Same H H'->H' dx=some (.xd [("line",.int (i:Nat))])->E (.ref C) (some dx) H'
  | .ok l=>∀H' tl,Same H H'->GripsAt H' tl l->Q (.ref tl) H')
theorem mapE {o:Except Nat (List LuteHand.Grip)}:o.map ([]++·)=o:=by cases o <;> rfl
theorem lT (i:Nat) (h:List LuteHand.Held) (r:List (List LuteHand.Held)) (row:List Nat) (rs:List (List Nat)) (last:List Nat):LM.mEnded i (h::r) (row::rs) last=match LM.mRow h row with
  | none=>.error i
  | some g=>(LM.mEnded (i+1) r rs last).map fun l=>g::l:=rfl
section
variable {P:Program}{w:World}{K:W.Frag}{mg:Str->Option Value}{base:Heap}
theorem scRPlan:FnScope yt ["moments","codes"] (ad fQ):=⟨rfl,rfl,rfl,by decide +kernel,rfl,by decide +kernel,by decide +kernel⟩
theorem uY {f0 fA fR CM fM C fI:Addr}{fd fdA fdR fdM fdI:FuncData} (D:Df K mg "read_plan" fQ ["moments","codes"] f0 fd) (DA:Df K mg "as_text" cq ["codes","signs"] fA fdA) (DR:Df K mg "read_row" iQ ["row","stops"] fR fdR) (KM:KMom K mg CM fM fdM) (KN:KNpt K mg C fI fdI)
  (GA:FnOk P w K mg base CX0 2 fA fdA ["codes","signs"] (jB K)) (GR:FnOk P w K mg base CX0 3 fR fdR ["row","stops"] ul) (gS:GV mg wV (.str (T LM.PS))) (gL:mg "len" = none) (gE:mg "enumerate" = none) :
  FnOk P w K mg base (CXD P w C) 4 f0 fd ["moments","codes"] (my K CM C):=by
 have GI:FnOk P w K mg base CX0 1 fI fdI n6 (mz C "line"):=wK KN
 refine D.fn.okD scRPlan (fun vs H Q E h=>?_) (fun cdv A outer s H vs Q E hr h=>?_)
 ·obtain⟨_,_,_,_,rfl,_⟩:=h
  rfl
 ·obtain⟨q,a,hs,ns,rfl,⟨mv,hq1,hq2⟩,okm,hsl,hS,hlen,k⟩:=h
  have hml:mv.length=hs.length:=by rw[hq2.length,LM.withPrev_len]
  refine⟨_,ae (aG (i:=2) scRPlan.nd rfl (Or.inl rfl) (dX (aE GA (hr.mono (by decide)) rfl DA.at_ DA.fn.kp DA.b .nil pass0 (aa (pv 1) (aa (bc gS rfl) ag))) aQ))
   (ae (aG (i:=3) scRPlan.nd rfl (Or.inl rfl) (bp gn (pv 2) bQ (bC (dW cA ao))))
   (ae (aG (i:=4) scRPlan.nd rfl (Or.inl rfl) (bn ag))
   (ae (br bR rfl (jk rfl gE (aa (pv 3) ag)) (bV (n:=2) rfl (aO (aD (i:=5) scRPlan.nd rfl (Or.inl rfl)) (aO (aD (i:=6) scRPlan.nd rfl (Or.inl rfl)) bD)))
    (ae (aG (i:=7) scRPlan.nd rfl (Or.inl rfl) cE)
    (ae (aM (aq lE (pv 5) (aR aZ (by rfl) gL PySem.boot_len (aa (pv 0) ag)) (nomark _)) (ah (aG (i:=7) scRPlan.nd rfl (Or.inl rfl) (aE GR hr rfl DR.at_ DR.fn.kp DR.b .nil pass0 (aa (pv 6) (aa (ci (aJ aY (pv 0) (pv 5) (fun _ _=>rfl)) rfl) ag))))) aw)
    (ae (aM (aq uT (pv 7) cE (nomark _)) (ah (lA rfl nQ rfl KN.at_ KN.exc KN.kp GI (hr.mono (by decide)) KN.b (aa (pv 5) ag))) aw)
    (ah (cu (cS F.plainAttrs_list F.slot_list_append F.type_list_append bE (pv 4) (aa (pv 7) ag))))))))
   (ae (aM (PW.pt (lz (aq lE (aR aZ (by rfl) gL PySem.boot_len (aa (pv 3) ag)) (aR aZ (by rfl) gL PySem.boot_len (aa (pv 0) ag)) (nomark _)) (jG (aq jO (aJ aY (pv 2) (dW cA ao) (fun _ _=>rfl)) aQ (nomark _))))) (ah (lA rfl nQ rfl KN.at_ KN.exc KN.kp GI (hr.mono (by decide)) KN.b (aa (aR aZ (by rfl) gL PySem.boot_len (aa (pv 3) ag)) ag))) aw)
   (ah (aA (pv 4))))))),?_⟩
  refine⟨_,rfl,a,ns,LM.PS,rfl,hS,hlen,by decide,fun H1 s1=>?_⟩
  generalize hcs:ns.map (LM.cleanIn LM.PS)=cs at k
  have hlc:cs.length<=100000:=by rw[← hcs,List.length_map];exact hlen
  have hac:vV cs:=by
   intro c hc
   rw[← hcs] at hc
   obtain⟨n,_,rfl⟩:=List.mem_map.mp hc
   exact tQ n
  refine⟨⟨_,rfl⟩,T cs,T [10],rfl,rfl,rfl,?_,fun rp hrp=>?_⟩
  ·rw[bi];exact Nat.le_trans (Nat.add_le_add_right hlc 2) (by decide)
  rw[gm 10 (by decide)]
  have hps:=bO 10 cs
  have hlps:=dq 10 cs
  have hsub:=ms 10 cs
  have hne:=LM.spl_ne 10 cs
  unfold LM.mPlan at k
  generalize LM.spl 10 cs=rows at hps hlps hsub hne k
  obtain⟨ini,z,ez⟩:∃ini z,rows=ini++[z]:=⟨rows.dropLast,rows.getLast hne,(List.dropLast_concat_getLast hne).symm⟩
  subst ez
  have e1:(ini++[z]).dropLast=ini:=by simp
  have e2:(ini++[z]).getLastD []=z:=by rw[List.getLastD_eq_getLast?];simp
  rw[e1,e2] at k
  have ev:((ini++[z]).map T).map V.str=tv (ini++[z]):=by
   rw[List.map_map]
   rfl
  rw[ev]
  have s2:Same H (upd H1 rp (.lst (tv (ini++[z])))):=s1.new hrp
  have hp2:upd H1 rp (.lst (tv (ini++[z]))) rp=some (.lst (tv (ini++[z]))):=ac
  generalize upd H1 rp (.lst (tv (ini++[z])))=H2 at s2 hp2
  refine⟨_,rfl,_,rfl,_,rfl,rp,_,rfl,SqL.of hp2,fun ep hep=>?_⟩
  have ec:zdl (tv (ini++[z])) none (some (-1))=tv ini:=by
   rw[vS,tv,tv,← List.map_dropLast,e1]
  rw[ec]
  have s3:Same H2 (upd H2 ep (.lst (tv ini))):=Same.new (Same.refl H2) hep
  have hp3:upd H2 ep (.lst (tv ini)) ep=some (.lst (tv ini)):=ac
  generalize upd H2 ep (.lst (tv ini))=H3 at s3 hp3
  have hr3:=s3 _ _ hp2
  have s23:=s2.trans s3
  refine⟨Nat.zero_le _,fun tl htl=>?_⟩
  have htv:(tv ini).length=ini.length:=by simp[tv]
  refine⟨_,rfl,ep,_,rfl,SqL.of (by rw[ai (af hp3 htl)];exact hp3),g6 (K:=K) (a:=ep) (xs:=tv ini) (fun i σ H'=>∃(v5 v6 v7:Option V) (gvs:List V) (gs:List LuteHand.Grip),σ=[some (.ref q),some (.ref a),some (.ref rp),some (.ref ep),some (.ref tl),v5,v6,v7]/\H' tl=some (.lst gvs)/\Paired (GripAt H') gvs gs/\Same H3 H'/\gs.length=i/\i<=hs.length/\LM.mEnded 0 hs ini z=(LM.mEnded i (hs.drop i) (ini.drop i) z).map (gs++·))
   ⟨none,none,none,[],[],rfl,ac,.nil,Same.new (Same.refl H3) htl,rfl,Nat.zero_le _,mapE.symm⟩ (fun i σ H' ⟨_,_,_,_,_,_,_,_,z,_⟩=>SqL.of (z _ _ hp3)) ?_ ?_⟩
  ·rintro i v σ H' t hv ⟨v5,v6,v7,gvs,gs,rfl,h1,h2,h3,h4,h5,h6⟩ ht
   rw[List.getElem?_map] at hv
   obtain⟨row,hrow,rfl⟩:=Option.map_eq_some_iff.mp hv
   have hil:=(List.getElem?_eq_some_iff.mp hrow).1
   have hrm:=List.mem_of_getElem? hrow
   have hdi:ini.drop i=row::ini.drop (i+1):=by
    rw[List.drop_eq_getElem_cons hil]
    congr 1
    exact (List.getElem?_eq_some_iff.mp hrow).2
   have s4:Same H' (upd H' t (.tup [.int (i:Nat),.str (T row)])):=Same.new (Same.refl H') ht
   have sH:=s23.trans (h3.trans s4)
   refine⟨t,_,rfl,SqT.of ac,rfl,_,_,rfl,_,_,rfl,rfl,?_⟩
   generalize upd H' t (.tup [.int (i:Nat),.str (T row)])=H4 at s4 sH
   refine⟨_,rfl,_,rfl,q,_,rfl,.inl (SqL.of (sH _ _ hq1)),_,_,rfl,rfl,_,rfl,?_⟩
   rw[hml]
   have bad:∀H5,Same H H5->LM.mEnded 0 hs ini z=.error i->∀dx,H5 dx=none->E (.ref C) (some dx) (upd H5 dx (.xd [("line",.int (i:Nat))])):=fun H5 s5 e dx hdx=>by
    rw[e] at k
    exact k _ dx (s5.new hdx) ac
   refine ite2 (fun y=>?_) fun y=>?_
   ·have hi:i<hs.length:=by have:((i:Nat):Int)<((hs.length:Nat):Int):=of_decide_eq_true y;omega
    obtain⟨h,hh⟩:∃h,hs[i]?=some h:=⟨_,List.getElem?_eq_getElem hi⟩
    have hdh:hs.drop i=h::hs.drop (i+1):=by
     rw[List.drop_eq_getElem_cons hi]
     congr 1
     exact (List.getElem?_eq_some_iff.mp hh).2
    obtain⟨ma,hma⟩:∃ma,mv[i]?=some ma:=⟨_,List.getElem?_eq_getElem (by omega)⟩
    obtain⟨x,hx,hmom⟩:=aI hq2 hma
    rw[LM.withPrev_at hh] at hx
    have okx:=okm _ (List.mem_of_getElem? (LM.withPrev_at (p:=[]) hh))
    obtain⟨m,dx,sp,tp,rfl,hm,hsp,_,_,_⟩:=hmom
    have ex:x.2=h:=by rw[← Option.some.inj hx]
    rw[ex] at hsp
    rw[hdh,hdi,lT] at h6
    refine⟨_,rfl,_,rfl,_,rfl,q,_,_,_,rfl,rfl,SqL.of (sH _ _ hq1),az hma,m,CM,dx,_,_,rfl,sH _ _ hm,KM.cl,KM.no _ (by simp),eX nq,?_⟩
    refine⟨row,sp,h,rfl,?_,fun c hc=>hac c (hsub row (by simp[hrm]) c hc),hsp.same sH,okx.2.1,?_⟩
    ·have:=hps row (by simp[hrm])
     omega
    cases hmr:LM.mRow h row with
    | none =>
     rw[hmr] at h6
     intro H5 s5
     refine⟨_,rfl,rfl,_,rfl,gH (decide_eq_true rfl) ?_⟩
     exact⟨_,rfl,_,rfl,bad H5 (sH.trans s5) h6⟩
    | some g =>
     rw[hmr] at h6
     intro H5 gt s5 hgt
     refine⟨_,rfl,rfl,_,rfl,iB (by simp) ?_⟩
     have ht5:=s5 _ _ (s4 _ _ h1)
     have hgl:gvs.length<sizeLine:=by
      rw[h2.length,h4]
      exact Nat.lt_of_lt_of_le hi (Nat.le_trans hsl (by decide))
     refine⟨_,rfl,.inl ⟨rfl,_,SqL.of ht5⟩,_,rfl,tl,gvs,_,rfl,rfl,ht5,hgl,?_⟩
     have tu:∀b xs,H5 b=some (.tup xs)->upd H5 tl (.lst (gvs++[.ref gt])) b=some (.tup xs):=fun b xs e=>by
      rw[ai (fun y=>by rw[y,ht5] at e;cases e)]
      exact e
     refine⟨_,_,_,gvs++[.ref gt],gs++[g],rfl,ac,aV (cG (fun b xs e=>tu b xs (s5 _ _ (s4 _ _ e))) h2) (hgt.mono tu),fun b o e=>by rw[ai (af e htl)];exact (h3.trans (s4.trans s5)) b o e,by simp[h4],hi,?_⟩
     rw[h6]
     dsimp only
     cases LM.mEnded (i+1) (hs.drop (i+1)) (ini.drop (i+1)) z with
     | error _=>rfl
     | ok l=>simp[Except.map]
   ·have hi:i=hs.length:=by have:¬((i:Nat):Int)<((hs.length:Nat):Int):=fun u=>y (decide_eq_true u);omega
    have e0:hs.drop i=[]:=by rw[List.drop_eq_nil_iff];omega
    rw[e0,hdi] at h6
    refine⟨_,rfl,rfl,_,rfl,gH (decide_eq_true rfl) ?_⟩
    exact⟨_,rfl,_,rfl,bad H4 sH h6⟩
  ·rintro σ H' ⟨v5,v6,v7,gvs,gs,rfl,h1,h2,h3,h4,h5,h6⟩
   have sH:=s23.trans h3
   rw[htv] at h4 h5 h6
   rw[List.drop_length] at h6
   have hen:=h3 _ _ hp3
   have e9:LM.mEnded ini.length (hs.drop ini.length) [] z=if hs.drop ini.length≠[]∨z≠[] then .error ini.length else .ok []:=by
    cases hs.drop ini.length <;> rfl
   rw[e9] at h6
   have bad:LM.mEnded 0 hs ini z=.error ini.length->∀dx,H' dx=none->E (.ref C) (some dx) (upd H' dx (.xd [("line",.int (ini.length:Nat))])):=fun e dx hdx=>by
    rw[e] at k
    exact k _ dx (sH.new hdx) ac
   refine⟨_,rfl,ep,_,rfl,.inl (SqL.of hen),_,rfl,q,_,rfl,.inl (SqL.of (sH _ _ hq1)),_,_,rfl,rfl,_,rfl,?_⟩
   rw[htv,hml]
   refine ite2 (fun y=>?_) fun y=>?_
   ·have y':ini.length<hs.length:=by have:((ini.length:Nat):Int)<((hs.length:Nat):Int):=of_decide_eq_true y;omega
    rw[if_pos (.inl fun u=>by rw[List.drop_eq_nil_iff] at u;omega)] at h6
    refine gH rfl ?_
    refine⟨_,rfl,ep,_,rfl,.inl (SqL.of hen),_,rfl,?_⟩
    rw[htv]
    exact bad h6
   ·have y':¬ini.length<hs.length:=fun u=>y (decide_eq_true (by omega))
    have e0:hs.drop ini.length=[]:=by rw[List.drop_eq_nil_iff];omega
    rw[e0] at h6
    refine⟨_,rfl,_,rfl,rp,_,_,_,rfl,rfl,SqL.of (h3 _ _ hr3),(by rw[tv,List.map_append];exact o6 _ _),rfl,_,rfl,ite2 (fun x=>?_) fun x=>?_⟩
    ·have x':¬z=[]:=fun u=>iW x (by rw[u];rfl)
     rw[if_pos (.inr x')] at h6
     refine⟨_,rfl,ep,_,rfl,.inl (SqL.of hen),_,rfl,?_⟩
     rw[htv]
     exact bad h6
    ·have x':z=[]:=strT_eq.mp (nnd_of x:V.str (T z)=V.str (T []))
     rw[if_neg (by rw[x'];simp)] at h6
     have h7:LM.mEnded 0 hs ini z=.ok gs:=by rw[h6];simp[Except.map]
     rw[h7] at k
     exact⟨_,rfl,k H' tl sH ⟨gvs,h1,h2⟩⟩
end
abbrev ic:Stmt:=top 82
abbrev yy:List Str:=["ring","t","w","p","reading","told","fault","faulty"]
def bB (ring:Nat) (ns ws ps:List Nat):List Int:=match eU ring ns ws with
 | .error z=>[z]
 | .ok hs=>match LM.mPlan hs (ps.map (LM.cleanIn LM.PS)) with
  | .error i=>[-9,(i:Int)]
  | .ok l=>match LuteHand.wrongAt 0 hs l with
   | some i=>[-5,(i:Int)]
   | none=>[((LuteHand.cost ws hs l:Nat):Int)]
theorem zL {ps:List Nat} (hp:∀n∈ps,n<256):(ps.map UInt8.ofNat).map LM.GP=ps.map (LM.cleanIn LM.PS):=by
 rw[List.map_map]
 refine List.map_congr_left fun n hn=>?_
 show LM.cleanIn LM.PS (UInt8.ofNat n).toNat=_
 have:(UInt8.ofNat n).toNat=n:=by
  have:=hp n hn
  simp
  omega
 rw[this]
theorem vD {hs:List (List LuteHand.Held)} (h:∀x∈LM.withPrev [] hs,LM.okMom x):∀x∈hs,LM.okHeld x:=fun x hx=>by
 obtain⟨i,hi⟩:=List.mem_iff_getElem?.mp hx
 exact (h _ (List.mem_of_getElem? (LM.withPrev_at (p:=[]) hi))).2.1
theorem judge_spec {ns ps:List Nat} (hn:∀n∈ns,n<256) (hp:∀n∈ps,n<256) (hl:ps.length<=100000) (ring:Nat) (ws:List Nat):PyWqauco.judge (ring:Nat) (ns.map fun (n:Nat)=>(n:Int)) (ws.map fun (n:Nat)=>(n:Int)) (ps.map fun (n:Nat)=>(n:Int))=bB ring ns ws ps:=by
 have e0:PyWqauco.judge (ring:Nat) (ns.map fun (n:Nat)=>(n:Int)) (ws.map fun (n:Nat)=>(n:Int)) (ps.map fun (n:Nat)=>(n:Int))=LuteE.answer (.judge (LuHandNeutral.bytes (ns.map fun (n:Nat)=>(n:Int))) ring (LuHandNeutral.nats (ws.map fun (n:Nat)=>(n:Int))) (LuHandNeutral.bytes (ps.map fun (n:Nat)=>(n:Int)))):=rfl
 rw[e0,LM.bytes_of,LM.bytes_of,wU]
 unfold LuteE.answer
 dsimp only
 rw[if_neg (by rw[List.length_map];unfold LuteE.PLAN;omega),mr hn]
 unfold bB
 cases hr:eU ring ns ws with
 | error z=>rfl
 | ok hs =>
  dsimp only
  rw[LM.plan_read hs _ (vD (LM.rdg_ok (qI hr).1).1),zL hp]
  cases LM.mPlan hs (ps.map (LM.cleanIn LM.PS)) with
  | error i=>rfl
  | ok l =>
   dsimp only
   cases LuteHand.wrongAt 0 hs l <;> rfl
theorem oM:∀{hs:List (List LuteHand.Held)}{i:Nat}{rows:List (List Nat)}{last:List Nat}{l:List LuteHand.Grip},LM.mEnded i hs rows last=.ok l->∀(j:Nat) (g:LuteHand.Grip) (h:List LuteHand.Held),l[j]?=some g->hs[j]?=some h->g.fingers.length=h.length
 | hs,i,[],last,l,e,j,g,h,hg,hh=>by
  unfold LM.mEnded at e
  split at e
  ·cases e
  ·cases e
   simp at hg
 | [],i,_::_,last,l,e,j,g,h,hg,hh=>by simp at hh
 | h0::r,i,row::rs,last,l,e,j,g,h,hg,hh=>by
  rw[lT] at e
  cases hm:LM.mRow h0 row with
  | none=>rw[hm] at e;cases e
  | some g0 =>
   rw[hm] at e
   dsimp only at e
   cases he:LM.mEnded (i+1) r rs last with
   | error _=>rw[he] at e;cases e
   | ok l1 =>
    rw[he] at e
    cases e
    cases j with
    | zero =>
     simp at hg hh
     subst hg hh
     exact LM.mRow_len hm
    | succ j=>exact oM he j g h (by simpa using hg) (by simpa using hh)
theorem tM {hs:List (List LuteHand.Held)}{l:List LuteHand.Grip} (hl:l.length=hs.length) (h:LuteHand.wrongAt 0 hs l=none):∀(j:Nat) (g:LuteHand.Grip) (x:List LuteHand.Held),l[j]?=some g->hs[j]?=some x->g.ok x=true:=by
 cases hs with
 | nil=>intro j g x _ hx;simp at hx
 | cons h0 r =>
  cases l with
  | nil=>simp at hl
  | cons g0 l0 =>
   have e:=LM.wrong_fault 0 h0 g0 r l0 (by simpa using hl)
   rw[e] at h
   split at h
   ·cases h
   ·next h1 =>
    intro j g x hg hx
    cases j with
    | zero =>
     simp at hg hx
     rw[← hg,← hx]
     simpa using h1
    | succ j=>exact LM.fault_ok (by simpa using hl) h j x g (by simpa using hx) (by simpa using hg)
def spJudge (K:W.Frag):Sp:=fun vs H Q _=>∃(ring:Nat) (a wp pp:Addr) (ns ws ps:List Nat),vs=[.int (ring:Nat),.ref a,.ref wp,.ref pp]/\SqL K H a (ns.map fun (n:Nat)=>V.int (n:Int))/\SqL K H wp (ws.map fun (n:Nat)=>V.int (n:Int))/\SqL K H pp (ps.map fun (n:Nat)=>V.int (n:Int))/\ws.length<=12/\ps.length<=100000/\∀(H':Hp) (p:Addr),H' p=some (.lst ((bB ring ns ws ps).map V.int))->Q (.ref p) H'
section
variable {P:Program}{w:World}{K:W.Frag}{mg:Str->Option Value}{base:Heap}
theorem scJudge:FnScope yy ["ring","t","w","p"] (ad ic):=⟨rfl,rfl,rfl,by decide +kernel,rfl,by decide +kernel,by decide +kernel⟩
theorem vd {f fR fP fF fC CR CM fI C fN:Addr}{fd fdR fdP fdF fdC fdI fdN:FuncData} (D:Df K mg "judge" ic ["ring","t","w","p"] f fd) (DR:Df K mg "read_weighed" cC ["ring","t","w"] fR fdR) (DP:Df K mg "read_plan" fQ ["moments","codes"] fP fdP) (DF:Df K mg "first_fault" fZ ["moments","told"] fF fdF) (DC:Df K mg "plan_cost" fV ["moments","grips","w"] fC fdC) (KR:KRead K mg CR fI fdI) (KN:KNpt K mg C fN fdN)
  (GR:FnOk P w K mg base CX0 10 fR fdR ["ring","t","w"] (lq K CR CM)) (GP:FnOk P w K mg base (CXD P w C) 4 fP fdP ["moments","codes"] (my K CM C)) (GF:FnOk P w K mg base CX0 7 fF fdF ["moments","told"] (qE CM)) (GC:FnOk P w K mg base CX0 4 fC fdC ["moments","grips","w"] (qy K CM)) (gM:GV mg "MOST_PLAN_BYTES" (.int 262144)) (gL:mg "len" = none):FnOk P w K mg base CX0 11 f fd ["ring","t","w","p"] (spJudge K):=by
 refine D.fn.ok scJudge (fun vs H Q E h=>?_) (fun cdv A outer s0 H vs Q E hr h=>?_)
 ·obtain⟨_,_,_,_,_,_,_,rfl,_⟩:=h
  rfl
 ·obtain⟨ring,a,wp,pp,ns,ws,ps,rfl,hS,hW,hP,_,hl,k⟩:=h
  refine⟨_,ae (aM (aq dg (aR aZ (by rfl) gL PySem.boot_len (aa (pv 3) ag)) (bc gM rfl) (nomark _)) (ah (aA (bn (aa (dW cA ao) ag)))) aw)
   (ae (aG (i:=4) scJudge.nd rfl (Or.inl rfl) (aE GR hr rfl DR.at_ DR.fn.kp DR.b .nil pass0 (aa (pv 0) (aa (pv 1) (aa (pv 2) ag)))))
   (ae (aM (aq lE (ci (pv 4) rfl) ao (nomark _)) (ah (aA (bn (aa (ci (pv 4) rfl) ag)))) aw)
   (ae (uK (i:=6) (tb:=fun E'=>xZ (uf (my K CM C) [] E' (nk (y6 K (jb 4) "moments") (nk (jb 3) xU))) (cH 5)) rfl rfl rfl rfl KN.at_ KN.exc scJudge.nd rfl rfl (fun E' pins=>ah (aG (i:=5) scJudge.nd rfl (Or.inl rfl) (aE GP (hr.mono (by decide)) rfl DP.at_ DP.fn.kp DP.b .nil nN (aa (ci (pv 4) rfl) (aa (pv 3) ag))))) (fun e=>ah (aA (bn (aa (dW cA ao) (aa (wA KN.exc qW (pv 6) rfl) ag))))))
   (ae (aG (i:=7) scJudge.nd rfl (Or.inl rfl) (aE GF (hr.mono (by decide)) rfl DF.at_ DF.fn.kp DF.b .nil pass0 (aa (ci (pv 4) rfl) (aa (pv 5) ag))))
   (ae (aM (aq wB (pv 7) cE (nomark _)) (ah (aA (bn (aa (dW cA ao) (aa (pv 7) ag))))) aw)
   (ah (aA (bn (aa (aE GC (hr.mono (by decide)) rfl DC.at_ DC.fn.kp DC.b .nil pass0 (aa (ci (pv 4) rfl) (aa (pv 5) (aa (pv 2) ag)))) ag))))))))),?_⟩
  refine⟨_,rfl,pp,_,rfl,.inl hP,_,_,rfl,rfl,_,rfl,?_⟩
  rw[List.length_map]
  refine iB (by rw[decide_eq_true_eq];omega) ?_
  refine⟨_,rfl,_,rfl,_,rfl,ring,a,wp,ns,ws,rfl,hS,hW,fun H1 v s1 hv=>?_⟩
  cases hrd:eU ring ns ws with
  | error z =>
   have eA:bB ring ns ws ps=[z]:=by unfold bB;rw[hrd]
   rw[hrd] at hv
   obtain⟨m,dx,q,rfl,hm⟩:=hv
   refine⟨_,rfl,m,CR,dx,_,_,rfl,hm,KR.cl,KR.no _ (by simp),eX nH,_,_,rfl,rfl,_,rfl,gH (decide_eq_true (uD hrd)) ?_⟩
   refine⟨_,rfl,m,CR,dx,_,_,rfl,hm,KR.cl,KR.no _ (by simp),eX nH,by show 1<=sizeLine;decide,fun p hp=>k _ p (by rw[ac,eA];rfl)⟩
  | ok hs =>
   rw[hrd] at hv
   obtain⟨m,dx,q,rfl,hm,hq⟩:=hv
   obtain⟨hr1,hw9,hw255⟩:=qI hrd
   obtain⟨okm,hlen,hne⟩:=LM.rdg_ok hr1
   refine⟨_,rfl,m,CR,dx,_,_,rfl,hm,KR.cl,KR.no _ (by simp),eX nH,_,_,rfl,rfl,_,rfl,iB (by decide) ?_⟩
   refine⟨_,rfl,m,CR,dx,_,_,rfl,hm,KR.cl,KR.no _ (by simp),qk,_,rfl,q,pp,hs,ps,rfl,hq,okm,hlen,s1.seq hP,hl,?_⟩
   cases hp:LM.mPlan hs (ps.map (LM.cleanIn LM.PS)) with
   | error i =>
    have eA:bB ring ns ws ps=[-9,(i:Int)]:=by unfold bB;rw[hrd];dsimp only;rw[hp]
    intro H2 xd s2 hxd
    refine⟨xd,rfl,fun ea vs hea=>?_⟩
    refine⟨_,rfl,_,rfl,ea,xd,vs,[("line",.int (i:Nat))],.int (i:Nat),rfl,ac,?_,rfl,by show 2<=sizeLine;decide,fun p hp=>k _ p (by rw[ac,eA];rfl)⟩
    rw[ai (af hxd hea)]
    exact hxd
   | ok l =>
    have hll:=LM.ended_len hp
    have hfl:=oM hp
    intro H2 tl s2 htl
    have s12:=s1.trans s2
    refine⟨_,rfl,m,CR,dx,_,_,rfl,s2 _ _ hm,KR.cl,KR.no _ (by simp),qk,_,rfl,q,tl,hs,l,rfl,hq.same s2,okm,hne,htl,hll,hfl,?_⟩
    cases hw:LuteHand.wrongAt 0 hs l with
    | some i =>
     have eA:bB ring ns ws ps=[-5,(i:Int)]:=by unfold bB;rw[hrd];dsimp only;rw[hp];dsimp only;rw[hw]
     intro H3 s3
     refine⟨_,rfl,rfl,_,rfl,gH (by simp) ?_⟩
     exact⟨_,rfl,_,rfl,by show 2<=sizeLine;decide,fun p hp=>k _ p (by rw[ac,eA];rfl)⟩
    | none =>
     have eA:bB ring ns ws ps=[((LuteHand.cost ws hs l:Nat):Int)]:=by unfold bB;rw[hrd];dsimp only;rw[hp];dsimp only;rw[hw]
     intro H3 s3
     refine⟨_,rfl,rfl,_,rfl,iB (by simp) ?_⟩
     refine⟨_,rfl,m,CR,dx,_,_,rfl,s3 _ _ (s2 _ _ hm),KR.cl,KR.no _ (by simp),qk,_,rfl,_,rfl,q,tl,wp,hs,l,ws,rfl,(hq.same s2).same s3,okm,hne,htl.same s3,hll,⟨(s12.trans s3).seq hW,hw9,hw255⟩,tM hll hw,fun H4 s4=>?_⟩
     exact⟨by show 1<=sizeLine;decide,fun p hp=>k _ p (by rw[ac,eA];rfl)⟩
end
open PySem.W (Codec)
def DfIn (K:W.Frag) (x:Str) (st:Stmt) (f:Addr):Prop:=W.nsIn K mainGlobals x=some (some (.ref f))/\∃(oc kV dc pm cd ct:Value) (od an:Option Addr) (sl:Array (Option Value)),
 K.lookup f=some ⟨oc,od,.func (W.fnOf x x (aC st) (au st) (ad st) .none kV dc pm an cd ct),sl⟩/\W.codeIn K cd x=true/\W.keepIn K (.ref f)=true
def GTIn (K:W.Frag) (x:Str) (xs:List V) (a:Addr):Prop:=W.nsIn K mainGlobals x=some (some (.ref a))/\∃(its:Array Value) (n:Nat) (sl:Array (Option Value)),K.lookup a=some ⟨.type "tuple",none,.seq its n,sl⟩/\its.size<=sizeLine/\its.toList.map absV=xs.map some
theorem wq:∀{x:V}{u:Value},absV u=some x->RelV x u:=by
 intro x u h
 cases u <;> first | (cases h;first | rfl | exact⟨_,rfl⟩) | cases h
theorem m8:∀{us:List Value}{xs:List V},us.map absV=xs.map some->Vals xs us
 | [],[],_=>.nil
 | [],_::_,h=>by simp at h
 | _::_,[],h=>by simp at h
 | u::us,x::xs,h=>by
  simp only[List.map_cons,List.cons.injEq] at h
  exact .cons (wq h.1) (m8 h.2)
section
variable {K:W.Frag}{h:Heap}{mg:Str->Option Value}
theorem GTIn.ok {x:Str}{xs:List V}{a:Addr} (X:K.In h) (G:h.Ns mainGlobals mg) (q:GTIn K x xs a):GT K mg x xs a:=by
 obtain⟨e,its,n,sl,hl,hz,hv⟩:=q
 exact⟨W.mg_of X G e,fun H=>.inr ⟨_,its,n,hl,rfl,rfl,hz,m8 hv⟩,⟨_,hl,rfl,rfl⟩⟩
theorem DfIn.ok {x:Str}{st:Stmt}{f:Addr}{ps:List Str} (X:K.In h) (G:h.Ns mainGlobals mg) (q:DfIn K x st f)
  (hb:∀(kV doc pm:Value) (an:Option Addr) (cdv ct:Value) (us:List Value),us.length=ps.length->bindArgs (W.fnOf x x (aC st) (au st) (ad st) .none kV doc pm an cdv ct) ⟨us,[]⟩=pure (ps.zip us)):∃fd,Df K mg x st ps f fd/\∀(s:Shared) (us:List Value),us.length=ps.length->BindsTo s fd ⟨us,[]⟩ (ps.zip us):=by
 obtain⟨e,oc,kV,dc,pm,cd,ct,od,an,sl,hl,hc,hk⟩:=q
 have F:=mW (st:=st) hl hc hk
 exact⟨_,⟨F,W.mg_of X G e,F.binds hb⟩,fun s us hu=>.of_eq (hb _ _ _ _ _ _ us hu)⟩
end
theorem all_mk {P:Program}{w:World}{K:W.Frag}{h:Heap}{mg:Str->Option Value}{fa C:Addr}
  {f0:Addr}{oc0 kV0 dc0 pm0 cd0 ct0:Value}{od0 an0:Option Addr}{sl0:Array (Option Value)}
  {f1:Addr}{oc1 kV1 dc1 pm1 cd1 ct1:Value}{od1 an1:Option Addr}{sl1:Array (Option Value)}
  {f2:Addr}{oc2 kV2 dc2 pm2 cd2 ct2:Value}{od2 an2:Option Addr}{sl2:Array (Option Value)}
  {f3:Addr}{oc3 kV3 dc3 pm3 cd3 ct3:Value}{od3 an3:Option Addr}{sl3:Array (Option Value)}
  {f4:Addr}{oc4 kV4 dc4 pm4 cd4 ct4:Value}{od4 an4:Option Addr}{sl4:Array (Option Value)}
  {f5:Addr}{oc5 kV5 dc5 pm5 cd5 ct5:Value}{od5 an5:Option Addr}{sl5:Array (Option Value)}
  {f6:Addr}{oc6 kV6 dc6 pm6 cd6 ct6:Value}{od6 an6:Option Addr}{sl6:Array (Option Value)}
  {f7:Addr}{oc7 kV7 dc7 pm7 cd7 ct7:Value}{od7 an7:Option Addr}{sl7:Array (Option Value)}
  {f8:Addr}{oc8 kV8 dc8 pm8 cd8 ct8:Value}{od8 an8:Option Addr}{sl8:Array (Option Value)}
  {f9:Addr}{oc9 kV9 dc9 pm9 cd9 ct9:Value}{od9 an9:Option Addr}{sl9:Array (Option Value)}
  {f10:Addr}{oc10 kV10 dc10 pm10 cd10 ct10:Value}{od10 an10:Option Addr}{sl10:Array (Option Value)}
  {f11:Addr}{oc11 kV11 dc11 pm11 cd11 ct11:Value}{od11 an11:Option Addr}{sl11:Array (Option Value)}
  {f12:Addr}{oc12 kV12 dc12 pm12 cd12 ct12:Value}{od12 an12:Option Addr}{sl12:Array (Option Value)}
  {f13:Addr}{oc13 kV13 dc13 pm13 cd13 ct13:Value}{od13 an13:Option Addr}{sl13:Array (Option Value)}
  {f14:Addr}{oc14 kV14 dc14 pm14 cd14 ct14:Value}{od14 an14:Option Addr}{sl14:Array (Option Value)}
  {f15:Addr}{oc15 kV15 dc15 pm15 cd15 ct15:Value}{od15 an15:Option Addr}{sl15:Array (Option Value)}
  {f16:Addr}{oc16 kV16 dc16 pm16 cd16 ct16:Value}{od16 an16:Option Addr}{sl16:Array (Option Value)}
  {f17:Addr}{oc17 kV17 dc17 pm17 cd17 ct17:Value}{od17 an17:Option Addr}{sl17:Array (Option Value)}
  {f18:Addr}{oc18 kV18 dc18 pm18 cd18 ct18:Value}{od18 an18:Option Addr}{sl18:Array (Option Value)}
  {f19:Addr}{oc19 kV19 dc19 pm19 cd19 ct19:Value}{od19 an19:Option Addr}{sl19:Array (Option Value)}
  {f20:Addr}{oc20 kV20 dc20 pm20 cd20 ct20:Value}{od20 an20:Option Addr}{sl20:Array (Option Value)}
  {f21:Addr}{oc21 kV21 dc21 pm21 cd21 ct21:Value}{od21 an21:Option Addr}{sl21:Array (Option Value)}
  {f22:Addr}{oc22 kV22 dc22 pm22 cd22 ct22:Value}{od22 an22:Option Addr}{sl22:Array (Option Value)}
  {f23:Addr}{oc23 kV23 dc23 pm23 cd23 ct23:Value}{od23 an23:Option Addr}{sl23:Array (Option Value)}
  {f24:Addr}{oc24 kV24 dc24 pm24 cd24 ct24:Value}{od24 an24:Option Addr}{sl24:Array (Option Value)}
  {f25:Addr}{oc25 kV25 dc25 pm25 cd25 ct25:Value}{od25 an25:Option Addr}{sl25:Array (Option Value)}
  {f26:Addr}{oc26 kV26 dc26 pm26 cd26 ct26:Value}{od26 an26:Option Addr}{sl26:Array (Option Value)}
  {f27:Addr}{oc27 kV27 dc27 pm27 cd27 ct27:Value}{od27 an27:Option Addr}{sl27:Array (Option Value)}
  {f28:Addr}{oc28 kV28 dc28 pm28 cd28 ct28:Value}{od28 an28:Option Addr}{sl28:Array (Option Value)}
  {f29:Addr}{oc29 kV29 dc29 pm29 cd29 ct29:Value}{od29 an29:Option Addr}{sl29:Array (Option Value)}
  {f30:Addr}{oc30 kV30 dc30 pm30 cd30 ct30:Value}{od30 an30:Option Addr}{sl30:Array (Option Value)}
  {f31:Addr}{oc31 kV31 dc31 pm31 cd31 ct31:Value}{od31 an31:Option Addr}{sl31:Array (Option Value)}
  {f32:Addr}{oc32 kV32 dc32 pm32 cd32 ct32:Value}{od32 an32:Option Addr}{sl32:Array (Option Value)}
  {f33:Addr}{oc33 kV33 dc33 pm33 cd33 ct33:Value}{od33 an33:Option Addr}{sl33:Array (Option Value)}
  {f34:Addr}{oc34 kV34 dc34 pm34 cd34 ct34:Value}{od34 an34:Option Addr}{sl34:Array (Option Value)}
  {f35:Addr}{oc35 kV35 dc35 pm35 cd35 ct35:Value}{od35 an35:Option Addr}{sl35:Array (Option Value)}
  {f36:Addr}{oc36 kV36 dc36 pm36 cd36 ct36:Value}{od36 an36:Option Addr}{sl36:Array (Option Value)}
  {C0 g0:Addr}{goc0 gkV0 gdc0 gpm0 gcd0 gct0:Value}{god0 gan0:Option Addr}{gsl0:Array (Option Value)}
  {C1 g1:Addr}{goc1 gkV1 gdc1 gpm1 gcd1 gct1:Value}{god1 gan1:Option Addr}{gsl1:Array (Option Value)}
  {CN gN:Addr}{noc nkV ndc npm ncd nct:Value}{nod nan:Option Addr}{nsl:Array (Option Value)}
  {uv0:Value}
  {uv1:Value}
  {uv2:Value}
  {uv3:Value}
  {uv4:Value}
  {uv5:Value}
  {uv6:Value}
  {uv7:Value}
  {uv8:Value}
  {uv9:Value}
  {uv10:Value}
  {uv11:Value}
  {uv12:Value}
  {uv13:Value}
  {uv14:Value}
  {uv15:Value}
  {uv16:Value}
  {uv17:Value}
  {uv18:Value}
  {uv19:Value}
  {uv20:Value}
  {uv21:Value}
  {uv22:Value}
  {uv23:Value}
  {uv24:Value}
  {uv25:Value}
  {aT0:Addr}{itT0:Array Value}{nT0:Nat}{sT0:Array (Option Value)}
  {aT1:Addr}{itT1:Array Value}{nT1:Nat}{sT1:Array (Option Value)}
  {aT2:Addr}{itT2:Array Value}{nT2:Nat}{sT2:Array (Option Value)}
  {aT3:Addr}{itT3:Array Value}{nT3:Nat}{sT3:Array (Option Value)}
  {aT4:Addr}{itT4:Array Value}{nT4:Nat}{sT4:Array (Option Value)}
  {aT5:Addr}{itT5:Array Value}{nT5:Nat}{sT5:Array (Option Value)}
  {aT6:Addr}{itT6:Array Value}{nT6:Nat}{sT6:Array (Option Value)}
  {aL:Addr}
  (X:K.In h) (G:h.Ns mainGlobals mg) (hfa:mg "judge" = some (.ref fa))
  (a0:W.nsIn K mainGlobals "can_reach" = some (some (.ref f0)))
  (l0:K.lookup f0=some ⟨oc0,od0,.func (W.fnOf "can_reach" "can_reach" (aC fO) (au fO) (ad fO) .none kV0 dc0 pm0 an0 cd0 ct0),sl0⟩)
  (c0:W.codeIn K cd0 "can_reach" = true)
  (k0:W.keepIn K (.ref f0)=true)
  (a1:W.nsIn K mainGlobals "go_together" = some (some (.ref f1)))
  (l1:K.lookup f1=some ⟨oc1,od1,.func (W.fnOf "go_together" "go_together" (aC kT) (au kT) (ad kT) .none kV1 dc1 pm1 an1 cd1 ct1),sl1⟩)
  (c1:W.codeIn K cd1 "go_together" = true)
  (k1:W.keepIn K (.ref f1)=true)
  (a2:W.nsIn K mainGlobals "fits" = some (some (.ref f2)))
  (l2:K.lookup f2=some ⟨oc2,od2,.func (W.fnOf "fits" "fits" (aC iS) (au iS) (ad iS) .none kV2 dc2 pm2 an2 cd2 ct2),sl2⟩)
  (c2:W.codeIn K cd2 "fits" = true)
  (k2:W.keepIn K (.ref f2)=true)
  (a3:W.nsIn K mainGlobals "fingerings" = some (some (.ref f3)))
  (l3:K.lookup f3=some ⟨oc3,od3,.func (W.fnOf "fingerings" "fingerings" (aC dS) (au dS) (ad dS) .none kV3 dc3 pm3 an3 cd3 ct3),sl3⟩)
  (c3:W.codeIn K cd3 "fingerings" = true)
  (k3:W.keepIn K (.ref f3)=true)
  (a4:W.nsIn K mainGlobals "find_grips" = some (some (.ref f4)))
  (l4:K.lookup f4=some ⟨oc4,od4,.func (W.fnOf "find_grips" "find_grips" (aC bL) (au bL) (ad bL) .none kV4 dc4 pm4 an4 cd4 ct4),sl4⟩)
  (c4:W.codeIn K cd4 "find_grips" = true)
  (k4:W.keepIn K (.ref f4)=true)
  (a5:W.nsIn K mainGlobals "is_grip" = some (some (.ref f5)))
  (l5:K.lookup f5=some ⟨oc5,od5,.func (W.fnOf "is_grip" "is_grip" (aC dy) (au dy) (ad dy) .none kV5 dc5 pm5 an5 cd5 ct5),sl5⟩)
  (c5:W.codeIn K cd5 "is_grip" = true)
  (k5:W.keepIn K (.ref f5)=true)
  (a6:W.nsIn K mainGlobals "keeps_fingers" = some (some (.ref f6)))
  (l6:K.lookup f6=some ⟨oc6,od6,.func (W.fnOf "keeps_fingers" "keeps_fingers" (aC dQ) (au dQ) (ad dQ) .none kV6 dc6 pm6 an6 cd6 ct6),sl6⟩)
  (c6:W.codeIn K cd6 "keeps_fingers" = true)
  (k6:W.keepIn K (.ref f6)=true)
  (a7:W.nsIn K mainGlobals "starting_cost" = some (some (.ref f7)))
  (l7:K.lookup f7=some ⟨oc7,od7,.func (W.fnOf "starting_cost" "starting_cost" (aC fE) (au fE) (ad fE) .none kV7 dc7 pm7 an7 cd7 ct7),sl7⟩)
  (c7:W.codeIn K cd7 "starting_cost" = true)
  (k7:W.keepIn K (.ref f7)=true)
  (a8:W.nsIn K mainGlobals "grip_cost" = some (some (.ref f8)))
  (l8:K.lookup f8=some ⟨oc8,od8,.func (W.fnOf "grip_cost" "grip_cost" (aC bU) (au bU) (ad bU) .none kV8 dc8 pm8 an8 cd8 ct8),sl8⟩)
  (c8:W.codeIn K cd8 "grip_cost" = true)
  (k8:W.keepIn K (.ref f8)=true)
  (a9:W.nsIn K mainGlobals "stopped_by" = some (some (.ref f9)))
  (l9:K.lookup f9=some ⟨oc9,od9,.func (W.fnOf "stopped_by" "stopped_by" (aC bY) (au bY) (ad bY) .none kV9 dc9 pm9 an9 cd9 ct9),sl9⟩)
  (c9:W.codeIn K cd9 "stopped_by" = true)
  (k9:W.keepIn K (.ref f9)=true)
  (a10:W.nsIn K mainGlobals "jumps" = some (some (.ref f10)))
  (l10:K.lookup f10=some ⟨oc10,od10,.func (W.fnOf "jumps" "jumps" (aC dR) (au dR) (ad dR) .none kV10 dc10 pm10 an10 cd10 ct10),sl10⟩)
  (c10:W.codeIn K cd10 "jumps" = true)
  (k10:W.keepIn K (.ref f10)=true)
  (a11:W.nsIn K mainGlobals "going_cost" = some (some (.ref f11)))
  (l11:K.lookup f11=some ⟨oc11,od11,.func (W.fnOf "going_cost" "going_cost" (aC fY) (au fY) (ad fY) .none kV11 dc11 pm11 an11 cd11 ct11),sl11⟩)
  (c11:W.codeIn K cd11 "going_cost" = true)
  (k11:W.keepIn K (.ref f11)=true)
  (a12:W.nsIn K mainGlobals "first_fault" = some (some (.ref f12)))
  (l12:K.lookup f12=some ⟨oc12,od12,.func (W.fnOf "first_fault" "first_fault" (aC fZ) (au fZ) (ad fZ) .none kV12 dc12 pm12 an12 cd12 ct12),sl12⟩)
  (c12:W.codeIn K cd12 "first_fault" = true)
  (k12:W.keepIn K (.ref f12)=true)
  (a13:W.nsIn K mainGlobals "plan_cost" = some (some (.ref f13)))
  (l13:K.lookup f13=some ⟨oc13,od13,.func (W.fnOf "plan_cost" "plan_cost" (aC fV) (au fV) (ad fV) .none kV13 dc13 pm13 an13 cd13 ct13),sl13⟩)
  (c13:W.codeIn K cd13 "plan_cost" = true)
  (k13:W.keepIn K (.ref f13)=true)
  (a14:W.nsIn K mainGlobals "find_ties" = some (some (.ref f14)))
  (l14:K.lookup f14=some ⟨oc14,od14,.func (W.fnOf "find_ties" "find_ties" (aC iP) (au iP) (ad iP) .none kV14 dc14 pm14 an14 cd14 ct14),sl14⟩)
  (c14:W.codeIn K cd14 "find_ties" = true)
  (k14:W.keepIn K (.ref f14)=true)
  (a15:W.nsIn K mainGlobals "held_moments" = some (some (.ref f15)))
  (l15:K.lookup f15=some ⟨oc15,od15,.func (W.fnOf "held_moments" "held_moments" (aC bq) (au bq) (ad bq) .none kV15 dc15 pm15 an15 cd15 ct15),sl15⟩)
  (c15:W.codeIn K cd15 "held_moments" = true)
  (k15:W.keepIn K (.ref f15)=true)
  (a16:W.nsIn K mainGlobals "as_text" = some (some (.ref f16)))
  (l16:K.lookup f16=some ⟨oc16,od16,.func (W.fnOf "as_text" "as_text" (aC cq) (au cq) (ad cq) .none kV16 dc16 pm16 an16 cd16 ct16),sl16⟩)
  (c16:W.codeIn K cd16 "as_text" = true)
  (k16:W.keepIn K (.ref f16)=true)
  (a17:W.nsIn K mainGlobals "read_grid" = some (some (.ref f17)))
  (l17:K.lookup f17=some ⟨oc17,od17,.func (W.fnOf "read_grid" "read_grid" (aC iR) (au iR) (ad iR) .none kV17 dc17 pm17 an17 cd17 ct17),sl17⟩)
  (c17:W.codeIn K cd17 "read_grid" = true)
  (k17:W.keepIn K (.ref f17)=true)
  (a18:W.nsIn K mainGlobals "read_basses" = some (some (.ref f18)))
  (l18:K.lookup f18=some ⟨oc18,od18,.func (W.fnOf "read_basses" "read_basses" (aC cR) (au cR) (ad cR) .none kV18 dc18 pm18 an18 cd18 ct18),sl18⟩)
  (c18:W.codeIn K cd18 "read_basses" = true)
  (k18:W.keepIn K (.ref f18)=true)
  (a19:W.nsIn K mainGlobals "read_french_stops" = some (some (.ref f19)))
  (l19:K.lookup f19=some ⟨oc19,od19,.func (W.fnOf "read_french_stops" "read_french_stops" (aC dz) (au dz) (ad dz) .none kV19 dc19 pm19 an19 cd19 ct19),sl19⟩)
  (c19:W.codeIn K cd19 "read_french_stops" = true)
  (k19:W.keepIn K (.ref f19)=true)
  (a20:W.nsIn K mainGlobals "read_italian_stops" = some (some (.ref f20)))
  (l20:K.lookup f20=some ⟨oc20,od20,.func (W.fnOf "read_italian_stops" "read_italian_stops" (aC bZ) (au bZ) (ad bZ) .none kV20 dc20 pm20 an20 cd20 ct20),sl20⟩)
  (c20:W.codeIn K cd20 "read_italian_stops" = true)
  (k20:W.keepIn K (.ref f20)=true)
  (a21:W.nsIn K mainGlobals "read_crossing" = some (some (.ref f21)))
  (l21:K.lookup f21=some ⟨oc21,od21,.func (W.fnOf "read_crossing" "read_crossing" (aC gb) (au gb) (ad gb) .none kV21 dc21 pm21 an21 cd21 ct21),sl21⟩)
  (c21:W.codeIn K cd21 "read_crossing" = true)
  (k21:W.keepIn K (.ref f21)=true)
  (a22:W.nsIn K mainGlobals "read_german_stop" = some (some (.ref f22)))
  (l22:K.lookup f22=some ⟨oc22,od22,.func (W.fnOf "read_german_stop" "read_german_stop" (aC cD) (au cD) (ad cD) .none kV22 dc22 pm22 an22 cd22 ct22),sl22⟩)
  (c22:W.codeIn K cd22 "read_german_stop" = true)
  (k22:W.keepIn K (.ref f22)=true)
  (a23:W.nsIn K mainGlobals "read_german_stops" = some (some (.ref f23)))
  (l23:K.lookup f23=some ⟨oc23,od23,.func (W.fnOf "read_german_stops" "read_german_stops" (aC cQ) (au cQ) (ad cQ) .none kV23 dc23 pm23 an23 cd23 ct23),sl23⟩)
  (c23:W.codeIn K cd23 "read_german_stops" = true)
  (k23:W.keepIn K (.ref f23)=true)
  (a24:W.nsIn K mainGlobals "read_stops" = some (some (.ref f24)))
  (l24:K.lookup f24=some ⟨oc24,od24,.func (W.fnOf "read_stops" "read_stops" (aC du) (au du) (ad du) .none kV24 dc24 pm24 an24 cd24 ct24),sl24⟩)
  (c24:W.codeIn K cd24 "read_stops" = true)
  (k24:W.keepIn K (.ref f24)=true)
  (a25:W.nsIn K mainGlobals "read_length" = some (some (.ref f25)))
  (l25:K.lookup f25=some ⟨oc25,od25,.func (W.fnOf "read_length" "read_length" (aC dw) (au dw) (ad dw) .none kV25 dc25 pm25 an25 cd25 ct25),sl25⟩)
  (c25:W.codeIn K cd25 "read_length" = true)
  (k25:W.keepIn K (.ref f25)=true)
  (a26:W.nsIn K mainGlobals "read_moment" = some (some (.ref f26)))
  (l26:K.lookup f26=some ⟨oc26,od26,.func (W.fnOf "read_moment" "read_moment" (aC dv) (au dv) (ad dv) .none kV26 dc26 pm26 an26 cd26 ct26),sl26⟩)
  (c26:W.codeIn K cd26 "read_moment" = true)
  (k26:W.keepIn K (.ref f26)=true)
  (a27:W.nsIn K mainGlobals "read_lines" = some (some (.ref f27)))
  (l27:K.lookup f27=some ⟨oc27,od27,.func (W.fnOf "read_lines" "read_lines" (aC fW) (au fW) (ad fW) .none kV27 dc27 pm27 an27 cd27 ct27),sl27⟩)
  (c27:W.codeIn K cd27 "read_lines" = true)
  (k27:W.keepIn K (.ref f27)=true)
  (a28:W.nsIn K mainGlobals "read_piece" = some (some (.ref f28)))
  (l28:K.lookup f28=some ⟨oc28,od28,.func (W.fnOf "read_piece" "read_piece" (aC fU) (au fU) (ad fU) .none kV28 dc28 pm28 an28 cd28 ct28),sl28⟩)
  (c28:W.codeIn K cd28 "read_piece" = true)
  (k28:W.keepIn K (.ref f28)=true)
  (a29:W.nsIn K mainGlobals "is_number" = some (some (.ref f29)))
  (l29:K.lookup f29=some ⟨oc29,od29,.func (W.fnOf "is_number" "is_number" (aC nG) (au nG) (ad nG) .none kV29 dc29 pm29 an29 cd29 ct29),sl29⟩)
  (c29:W.codeIn K cd29 "is_number" = true)
  (k29:W.keepIn K (.ref f29)=true)
  (a30:W.nsIn K mainGlobals "read_finger" = some (some (.ref f30)))
  (l30:K.lookup f30=some ⟨oc30,od30,.func (W.fnOf "read_finger" "read_finger" (aC jC) (au jC) (ad jC) .none kV30 dc30 pm30 an30 cd30 ct30),sl30⟩)
  (c30:W.codeIn K cd30 "read_finger" = true)
  (k30:W.keepIn K (.ref f30)=true)
  (a31:W.nsIn K mainGlobals "read_row" = some (some (.ref f31)))
  (l31:K.lookup f31=some ⟨oc31,od31,.func (W.fnOf "read_row" "read_row" (aC iQ) (au iQ) (ad iQ) .none kV31 dc31 pm31 an31 cd31 ct31),sl31⟩)
  (c31:W.codeIn K cd31 "read_row" = true)
  (k31:W.keepIn K (.ref f31)=true)
  (a32:W.nsIn K mainGlobals "read_plan" = some (some (.ref f32)))
  (l32:K.lookup f32=some ⟨oc32,od32,.func (W.fnOf "read_plan" "read_plan" (aC fQ) (au fQ) (ad fQ) .none kV32 dc32 pm32 an32 cd32 ct32),sl32⟩)
  (c32:W.codeIn K cd32 "read_plan" = true)
  (k32:W.keepIn K (.ref f32)=true)
  (a33:W.nsIn K mainGlobals "read_moments" = some (some (.ref f33)))
  (l33:K.lookup f33=some ⟨oc33,od33,.func (W.fnOf "read_moments" "read_moments" (aC bT) (au bT) (ad bT) .none kV33 dc33 pm33 an33 cd33 ct33),sl33⟩)
  (c33:W.codeIn K cd33 "read_moments" = true)
  (k33:W.keepIn K (.ref f33)=true)
  (a34:W.nsIn K mainGlobals "read_weighed" = some (some (.ref f34)))
  (l34:K.lookup f34=some ⟨oc34,od34,.func (W.fnOf "read_weighed" "read_weighed" (aC cC) (au cC) (ad cC) .none kV34 dc34 pm34 an34 cd34 ct34),sl34⟩)
  (c34:W.codeIn K cd34 "read_weighed" = true)
  (k34:W.keepIn K (.ref f34)=true)
  (a35:W.nsIn K mainGlobals "are_weights" = some (some (.ref f35)))
  (l35:K.lookup f35=some ⟨oc35,od35,.func (W.fnOf "are_weights" "are_weights" (aC iT) (au iT) (ad iT) .none kV35 dc35 pm35 an35 cd35 ct35),sl35⟩)
  (c35:W.codeIn K cd35 "are_weights" = true)
  (k35:W.keepIn K (.ref f35)=true)
  (a36:W.nsIn K mainGlobals "judge" = some (some (.ref f36)))
  (l36:K.lookup f36=some ⟨oc36,od36,.func (W.fnOf "judge" "judge" (aC ic) (au ic) (ad ic) .none kV36 dc36 pm36 an36 cd36 ct36),sl36⟩)
  (c36:W.codeIn K cd36 "judge" = true)
  (k36:W.keepIn K (.ref f36)=true)
  (ea0:W.nsIn K mainGlobals "Moment" = some (some (.ref C0)))
  (ei0:W.findIn K (.ref C0) "__init__" = some (some (.ref g0)))
  (ef0:W.isFn K (.ref g0)=true)
  (el0:K.lookup g0=some ⟨goc0,god0,.func (W.fnOf "__init__" "Moment.__init__" (aC ly) (au ly) (ad ly) .none gkV0 gdc0 gpm0 gan0 gcd0 gct0),gsl0⟩)
  (ec0:W.codeIn K gcd0 "Moment.__init__" = true)
  (ek0:W.keepIn K (.ref g0)=true)
  (ep0:W.plainGet K C0 Str.empty=true)
  (eh0:W.hasDictIn K C0=true)
  (eo0:W.plainOver K C0=true)
  (es0:W.findIn K (.ref C0) "__setattr__" = some (some (.builtin "object.__setattr__")))
  (em0:W.makesIn K C0=true)
  (ekc0:W.keepIn K (.ref C0)=true)
  (en0_0:W.findIn K (.ref C0) "stops" = some none)
  (en0_1:W.findIn K (.ref C0) "ties" = some none)
  (ea1:W.nsIn K mainGlobals "Reading" = some (some (.ref C1)))
  (ei1:W.findIn K (.ref C1) "__init__" = some (some (.ref g1)))
  (ef1:W.isFn K (.ref g1)=true)
  (el1:K.lookup g1=some ⟨goc1,god1,.func (W.fnOf "__init__" "Reading.__init__" (aC ib) (au ib) (ad ib) .none gkV1 gdc1 gpm1 gan1 gcd1 gct1),gsl1⟩)
  (ec1:W.codeIn K gcd1 "Reading.__init__" = true)
  (ek1:W.keepIn K (.ref g1)=true)
  (ep1:W.plainGet K C1 Str.empty=true)
  (eh1:W.hasDictIn K C1=true)
  (eo1:W.plainOver K C1=true)
  (es1:W.findIn K (.ref C1) "__setattr__" = some (some (.builtin "object.__setattr__")))
  (em1:W.makesIn K C1=true)
  (ekc1:W.keepIn K (.ref C1)=true)
  (en1_0:W.findIn K (.ref C1) "refusal" = some none)
  (en1_1:W.findIn K (.ref C1) "moments" = some none)
  (eC:W.nsIn K mainGlobals "NoPiece" = some (some (.ref C)))
  (xC:W.excIn K C lR "Exception.__new__" = true)
  (xa:W.nsIn K mainGlobals "NoPlanText" = some (some (.ref CN)))
  (xi:W.findIn K (.ref CN) "__init__" = some (some (.ref gN)))
  (xl:K.lookup gN=some ⟨noc,nod,.func (W.fnOf "__init__" "NoPlanText.__init__" (aC lx) (au lx) (ad lx) .none nkV ndc npm nan ncd nct),nsl⟩)
  (xc:W.codeIn K ncd "NoPlanText.__init__" = true)
  (xk:W.keepIn K (.ref gN)=true)
  (xkc:W.keepIn K (.ref CN)=true)
  (xe:ld K CN gN "line" = true)
  (v0:W.nsIn K mainGlobals "NO_SIGN" = some (some uv0))
  (r0:RelV (.str mM) uv0)
  (v1:W.nsIn K mainGlobals "SIGNS_pieces" = some (some uv1))
  (r1:RelV (.str ur) uv1)
  (v2:W.nsIn K mainGlobals "SIGNS_plantexts" = some (some uv2))
  (r2:RelV (.str (T LM.PS)) uv2)
  (v3:W.nsIn K mainGlobals "FIRST_BASS" = some (some uv3))
  (r3:RelV (.int 7) uv3)
  (v4:W.nsIn K mainGlobals "FRENCH_FRETS" = some (some uv4))
  (r4:RelV (.str (T LM.FF)) uv4)
  (v5:W.nsIn K mainGlobals "ITALIAN_FRETS" = some (some uv5))
  (r5:RelV (.str (T LM.IF)) uv5)
  (v6:W.nsIn K mainGlobals "MOST_ROUNDS" = some (some uv6))
  (r6:RelV (.int 3) uv6)
  (v7:W.nsIn K mainGlobals "GERMAN_CROSSINGS" = some (some uv7))
  (r7:RelV (.str (T LM.GC)) uv7)
  (v8:W.nsIn K mainGlobals "CROSSED_COURSES" = some (some uv8))
  (r8:RelV (.int 5) uv8)
  (v9:W.nsIn K mainGlobals "FRETS_A_ROUND" = some (some uv9))
  (r9:RelV (.int 5) uv9)
  (v10:W.nsIn K mainGlobals "MOST_LINES" = some (some uv10))
  (r10:RelV (.int 512) uv10)
  (v11:W.nsIn K mainGlobals "UNTIL_BAR" = some (some uv11))
  (r11:RelV (.int 2) uv11)
  (v12:W.nsIn K mainGlobals "UNTIL_MOMENT_ENDS" = some (some uv12))
  (r12:RelV (.int 0) uv12)
  (v13:W.nsIn K mainGlobals "MOST_BYTES" = some (some uv13))
  (r13:RelV (.int 65536) uv13)
  (v14:W.nsIn K mainGlobals "LAST_RINGING" = some (some uv14))
  (r14:RelV (.int 2) uv14)
  (v15:W.nsIn K mainGlobals "LAST_POSITION" = some (some uv15))
  (r15:RelV (.int 15) uv15)
  (v16:W.nsIn K mainGlobals "BARRE_FINGER" = some (some uv16))
  (r16:RelV (.int 1) uv16)
  (v17:W.nsIn K mainGlobals "MOST_PLAN_BYTES" = some (some uv17))
  (r17:RelV (.int 262144) uv17)
  (v18:W.nsIn K mainGlobals "WEIGHTS" = some (some uv18))
  (r18:RelV (.int 9) uv18)
  (v19:W.nsIn K mainGlobals "MOST_WEIGHT" = some (some uv19))
  (r19:RelV (.int 255) uv19)
  (v20:W.nsIn K mainGlobals "SHIFT" = some (some uv20))
  (r20:RelV (.int 0) uv20)
  (v21:W.nsIn K mainGlobals "STRETCH" = some (some uv21))
  (r21:RelV (.int 5) uv21)
  (v22:W.nsIn K mainGlobals "BARRE" = some (some uv22))
  (r22:RelV (.int 6) uv22)
  (v23:W.nsIn K mainGlobals "JUMP" = some (some uv23))
  (r23:RelV (.int 7) uv23)
  (v24:W.nsIn K mainGlobals "START" = some (some uv24))
  (r24:RelV (.int 8) uv24)
  (v25:W.nsIn K mainGlobals "MOST_DIGITS" = some (some uv25))
  (r25:RelV (.int 3) uv25)
  (t0:W.nsIn K mainGlobals "FRENCH_BASSES" = some (some (.ref aT0)))
  (tl0:K.lookup aT0=some ⟨.type "tuple",none,.seq itT0 nT0,sT0⟩)
  (tz0:itT0.size<=sizeLine)
  (tw0:itT0.toList.map absV=(tv LM.FB).map some)
  (t1:W.nsIn K mainGlobals "ITALIAN_BASSES" = some (some (.ref aT1)))
  (tl1:K.lookup aT1=some ⟨.type "tuple",none,.seq itT1 nT1,sT1⟩)
  (tz1:itT1.size<=sizeLine)
  (tw1:itT1.toList.map absV=(tv LM.IB).map some)
  (t2:W.nsIn K mainGlobals "GERMAN_NUT" = some (some (.ref aT2)))
  (tl2:K.lookup aT2=some ⟨.type "tuple",none,.seq itT2 nT2,sT2⟩)
  (tz2:itT2.size<=sizeLine)
  (tw2:itT2.toList.map absV=(tv LM.NUT).map some)
  (t3:W.nsIn K mainGlobals "GERMAN_SIXTH" = some (some (.ref aT3)))
  (tl3:K.lookup aT3=some ⟨.type "tuple",none,.seq itT3 nT3,sT3⟩)
  (tz3:itT3.size<=sizeLine)
  (tw3:itT3.toList.map absV=(tv LM.SIXTH).map some)
  (t4:W.nsIn K mainGlobals "GERMAN_BASSES" = some (some (.ref aT4)))
  (tl4:K.lookup aT4=some ⟨.type "tuple",none,.seq itT4 nT4,sT4⟩)
  (tz4:itT4.size<=sizeLine)
  (tw4:itT4.toList.map absV=(tv LM.GB).map some)
  (t5:W.nsIn K mainGlobals "KINDS" = some (some (.ref aT5)))
  (tl5:K.lookup aT5=some ⟨.type "tuple",none,.seq itT5 nT5,sT5⟩)
  (tz5:itT5.size<=sizeLine)
  (tw5:itT5.toList.map absV=(tv LM.KINDS).map some)
  (t6:W.nsIn K mainGlobals "FINGERS" = some (some (.ref aT6)))
  (tl6:K.lookup aT6=some ⟨.type "tuple",none,.seq itT6 nT6,sT6⟩)
  (tz6:itT6.size<=sizeLine)
  (tw6:itT6.toList.map absV=(fv [1,2,3,4]).map some)
  (eL:W.nsIn K mainGlobals "LENGTHS" = some (some (.ref aL)))
  (mL:kP K aL sW)
  (n_abs:W.nsIn K mainGlobals "abs" = some none)
  (n_all:W.nsIn K mainGlobals "all" = some none)
  (n_any:W.nsIn K mainGlobals "any" = some none)
  (n_enumerate:W.nsIn K mainGlobals "enumerate" = some none)
  (n_int:W.nsIn K mainGlobals "int" = some none)
  (n_len:W.nsIn K mainGlobals "len" = some none)
  (n_ord:W.nsIn K mainGlobals "ord" = some none)
  (n_range:W.nsIn K mainGlobals "range" = some none)
  (n_reversed:W.nsIn K mainGlobals "reversed" = some none)
  (n_sorted:W.nsIn K mainGlobals "sorted" = some none)
  (n_tuple:W.nsIn K mainGlobals "tuple" = some none)
  (n_zip:W.nsIn K mainGlobals "zip" = some none) :
  ∃fd:FuncData,(∀(s:Shared) (us:List Value),us.length=(["ring","t","w","p"]:List Str).length->BindsTo s fd ⟨us,[]⟩ ((["ring","t","w","p"]:List Str).zip us))/\∀base:Heap,K.In base->base.Ns mainGlobals mg->FnOk P w K mg base CX0 11 fa fd ["ring","t","w","p"] (spJudge K):=by
 have e:=hfa.symm.trans (W.mg_of X G a36)
 cases e
 obtain⟨fd0,D0,b0⟩:=DfIn.ok (x:="can_reach") (st:=fO) (f:=f0) (ps:=["position","finger","fret"]) X G ⟨a0,_,_,_,_,_,_,_,_,_,l0,c0,k0⟩ fun _ _ _ _ _ _ us hl=>match us,hl with | [_,_,_],_=>rfl
 obtain⟨fd1,D1,b1⟩:=DfIn.ok (x:="go_together") (st:=kT) (f:=f1) (ps:=["stop","finger","other_stop","other_finger"]) X G ⟨a1,_,_,_,_,_,_,_,_,_,l1,c1,k1⟩ fun _ _ _ _ _ _ us hl=>match us,hl with | [_,_,_,_],_=>rfl
 obtain⟨fd2,D2,b2⟩:=DfIn.ok (x:="fits") (st:=iS) (f:=f2) (ps:=["stops","fingers","finger"]) X G ⟨a2,_,_,_,_,_,_,_,_,_,l2,c2,k2⟩ fun _ _ _ _ _ _ us hl=>match us,hl with | [_,_,_],_=>rfl
 obtain⟨fd3,D3,b3⟩:=DfIn.ok (x:="fingerings") (st:=dS) (f:=f3) (ps:=["stops","position"]) X G ⟨a3,_,_,_,_,_,_,_,_,_,l3,c3,k3⟩ fun _ _ _ _ _ _ us hl=>match us,hl with | [_,_],_=>rfl
 obtain⟨fd4,D4,b4⟩:=DfIn.ok (x:="find_grips") (st:=bL) (f:=f4) (ps:=["stops"]) X G ⟨a4,_,_,_,_,_,_,_,_,_,l4,c4,k4⟩ fun _ _ _ _ _ _ us hl=>match us,hl with | [_],_=>rfl
 obtain⟨fd5,D5,b5⟩:=DfIn.ok (x:="is_grip") (st:=dy) (f:=f5) (ps:=["stops","grip"]) X G ⟨a5,_,_,_,_,_,_,_,_,_,l5,c5,k5⟩ fun _ _ _ _ _ _ us hl=>match us,hl with | [_,_],_=>rfl
 obtain⟨fd6,D6,b6⟩:=DfIn.ok (x:="keeps_fingers") (st:=dQ) (f:=f6) (ps:=["ties","grip","later_grip"]) X G ⟨a6,_,_,_,_,_,_,_,_,_,l6,c6,k6⟩ fun _ _ _ _ _ _ us hl=>match us,hl with | [_,_,_],_=>rfl
 obtain⟨fd7,D7,b7⟩:=DfIn.ok (x:="starting_cost") (st:=fE) (f:=f7) (ps:=["grip","w"]) X G ⟨a7,_,_,_,_,_,_,_,_,_,l7,c7,k7⟩ fun _ _ _ _ _ _ us hl=>match us,hl with | [_,_],_=>rfl
 obtain⟨fd8,D8,b8⟩:=DfIn.ok (x:="grip_cost") (st:=bU) (f:=f8) (ps:=["stops","grip","w"]) X G ⟨a8,_,_,_,_,_,_,_,_,_,l8,c8,k8⟩ fun _ _ _ _ _ _ us hl=>match us,hl with | [_,_,_],_=>rfl
 obtain⟨fd9,D9,b9⟩:=DfIn.ok (x:="stopped_by") (st:=bY) (f:=f9) (ps:=["finger","stops","fingers"]) X G ⟨a9,_,_,_,_,_,_,_,_,_,l9,c9,k9⟩ fun _ _ _ _ _ _ us hl=>match us,hl with | [_,_,_],_=>rfl
 obtain⟨fd10,D10,b10⟩:=DfIn.ok (x:="jumps") (st:=dR) (f:=f10) (ps:=["finger","stops","fingers","later_stops","later_fingers"]) X G ⟨a10,_,_,_,_,_,_,_,_,_,l10,c10,k10⟩ fun _ _ _ _ _ _ us hl=>match us,hl with | [_,_,_,_,_],_=>rfl
 obtain⟨fd11,D11,b11⟩:=DfIn.ok (x:="going_cost") (st:=fY) (f:=f11) (ps:=["stops","grip","later_stops","later_grip","w"]) X G ⟨a11,_,_,_,_,_,_,_,_,_,l11,c11,k11⟩ fun _ _ _ _ _ _ us hl=>match us,hl with | [_,_,_,_,_],_=>rfl
 obtain⟨fd12,D12,b12⟩:=DfIn.ok (x:="first_fault") (st:=fZ) (f:=f12) (ps:=["moments","told"]) X G ⟨a12,_,_,_,_,_,_,_,_,_,l12,c12,k12⟩ fun _ _ _ _ _ _ us hl=>match us,hl with | [_,_],_=>rfl
 obtain⟨fd13,D13,b13⟩:=DfIn.ok (x:="plan_cost") (st:=fV) (f:=f13) (ps:=["moments","grips","w"]) X G ⟨a13,_,_,_,_,_,_,_,_,_,l13,c13,k13⟩ fun _ _ _ _ _ _ us hl=>match us,hl with | [_,_,_],_=>rfl
 obtain⟨fd14,D14,b14⟩:=DfIn.ok (x:="find_ties") (st:=iP) (f:=f14) (ps:=["stops_before","stops","struck"]) X G ⟨a14,_,_,_,_,_,_,_,_,_,l14,c14,k14⟩ fun _ _ _ _ _ _ us hl=>match us,hl with | [_,_,_],_=>rfl
 obtain⟨fd15,D15,b15⟩:=DfIn.ok (x:="held_moments") (st:=bq) (f:=f15) (ps:=["lines","ring"]) X G ⟨a15,_,_,_,_,_,_,_,_,_,l15,c15,k15⟩ fun _ _ _ _ _ _ us hl=>match us,hl with | [_,_],_=>rfl
 obtain⟨fd16,D16,b16⟩:=DfIn.ok (x:="as_text") (st:=cq) (f:=f16) (ps:=["codes","signs"]) X G ⟨a16,_,_,_,_,_,_,_,_,_,l16,c16,k16⟩ fun _ _ _ _ _ _ us hl=>match us,hl with | [_,_],_=>rfl
 obtain⟨fd17,D17,b17⟩:=DfIn.ok (x:="read_grid") (st:=iR) (f:=f17) (ps:=["signs","frets"]) X G ⟨a17,_,_,_,_,_,_,_,_,_,l17,c17,k17⟩ fun _ _ _ _ _ _ us hl=>match us,hl with | [_,_],_=>rfl
 obtain⟨fd18,D18,b18⟩:=DfIn.ok (x:="read_basses") (st:=cR) (f:=f18) (ps:=["text","basses"]) X G ⟨a18,_,_,_,_,_,_,_,_,_,l18,c18,k18⟩ fun _ _ _ _ _ _ us hl=>match us,hl with | [_,_],_=>rfl
 obtain⟨fd19,D19,b19⟩:=DfIn.ok (x:="read_french_stops") (st:=dz) (f:=f19) (ps:=["text"]) X G ⟨a19,_,_,_,_,_,_,_,_,_,l19,c19,k19⟩ fun _ _ _ _ _ _ us hl=>match us,hl with | [_],_=>rfl
 obtain⟨fd20,D20,b20⟩:=DfIn.ok (x:="read_italian_stops") (st:=bZ) (f:=f20) (ps:=["text"]) X G ⟨a20,_,_,_,_,_,_,_,_,_,l20,c20,k20⟩ fun _ _ _ _ _ _ us hl=>match us,hl with | [_],_=>rfl
 obtain⟨fd21,D21,b21⟩:=DfIn.ok (x:="read_crossing") (st:=gb) (f:=f21) (ps:=["sign"]) X G ⟨a21,_,_,_,_,_,_,_,_,_,l21,c21,k21⟩ fun _ _ _ _ _ _ us hl=>match us,hl with | [_],_=>rfl
 obtain⟨fd22,D22,b22⟩:=DfIn.ok (x:="read_german_stop") (st:=cD) (f:=f22) (ps:=["sign"]) X G ⟨a22,_,_,_,_,_,_,_,_,_,l22,c22,k22⟩ fun _ _ _ _ _ _ us hl=>match us,hl with | [_],_=>rfl
 obtain⟨fd23,D23,b23⟩:=DfIn.ok (x:="read_german_stops") (st:=cQ) (f:=f23) (ps:=["text"]) X G ⟨a23,_,_,_,_,_,_,_,_,_,l23,c23,k23⟩ fun _ _ _ _ _ _ us hl=>match us,hl with | [_],_=>rfl
 obtain⟨fd24,D24,b24⟩:=DfIn.ok (x:="read_stops") (st:=du) (f:=f24) (ps:=["kind","text"]) X G ⟨a24,_,_,_,_,_,_,_,_,_,l24,c24,k24⟩ fun _ _ _ _ _ _ us hl=>match us,hl with | [_,_],_=>rfl
 obtain⟨fd25,D25,b25⟩:=DfIn.ok (x:="read_length") (st:=dw) (f:=f25) (ps:=["sign","length_before"]) X G ⟨a25,_,_,_,_,_,_,_,_,_,l25,c25,k25⟩ fun _ _ _ _ _ _ us hl=>match us,hl with | [_,_],_=>rfl
 obtain⟨fd26,D26,b26⟩:=DfIn.ok (x:="read_moment") (st:=dv) (f:=f26) (ps:=["kind","row","length_before"]) X G ⟨a26,_,_,_,_,_,_,_,_,_,l26,c26,k26⟩ fun _ _ _ _ _ _ us hl=>match us,hl with | [_,_,_],_=>rfl
 obtain⟨fd27,D27,b27⟩:=DfIn.ok (x:="read_lines") (st:=fW) (f:=f27) (ps:=["kind","rows"]) X G ⟨a27,_,_,_,_,_,_,_,_,_,l27,c27,k27⟩ fun _ _ _ _ _ _ us hl=>match us,hl with | [_,_],_=>rfl
 obtain⟨fd28,D28,b28⟩:=DfIn.ok (x:="read_piece") (st:=fU) (f:=f28) (ps:=["codes"]) X G ⟨a28,_,_,_,_,_,_,_,_,_,l28,c28,k28⟩ fun _ _ _ _ _ _ us hl=>match us,hl with | [_],_=>rfl
 obtain⟨fd29,D29,b29⟩:=DfIn.ok (x:="is_number") (st:=nG) (f:=f29) (ps:=["text"]) X G ⟨a29,_,_,_,_,_,_,_,_,_,l29,c29,k29⟩ fun _ _ _ _ _ _ us hl=>match us,hl with | [_],_=>rfl
 obtain⟨fd30,D30,b30⟩:=DfIn.ok (x:="read_finger") (st:=jC) (f:=f30) (ps:=["part","course"]) X G ⟨a30,_,_,_,_,_,_,_,_,_,l30,c30,k30⟩ fun _ _ _ _ _ _ us hl=>match us,hl with | [_,_],_=>rfl
 obtain⟨fd31,D31,b31⟩:=DfIn.ok (x:="read_row") (st:=iQ) (f:=f31) (ps:=["row","stops"]) X G ⟨a31,_,_,_,_,_,_,_,_,_,l31,c31,k31⟩ fun _ _ _ _ _ _ us hl=>match us,hl with | [_,_],_=>rfl
 obtain⟨fd32,D32,b32⟩:=DfIn.ok (x:="read_plan") (st:=fQ) (f:=f32) (ps:=["moments","codes"]) X G ⟨a32,_,_,_,_,_,_,_,_,_,l32,c32,k32⟩ fun _ _ _ _ _ _ us hl=>match us,hl with | [_,_],_=>rfl
 obtain⟨fd33,D33,b33⟩:=DfIn.ok (x:="read_moments") (st:=bT) (f:=f33) (ps:=["ring","t"]) X G ⟨a33,_,_,_,_,_,_,_,_,_,l33,c33,k33⟩ fun _ _ _ _ _ _ us hl=>match us,hl with | [_,_],_=>rfl
 obtain⟨fd34,D34,b34⟩:=DfIn.ok (x:="read_weighed") (st:=cC) (f:=f34) (ps:=["ring","t","w"]) X G ⟨a34,_,_,_,_,_,_,_,_,_,l34,c34,k34⟩ fun _ _ _ _ _ _ us hl=>match us,hl with | [_,_,_],_=>rfl
 obtain⟨fd35,D35,b35⟩:=DfIn.ok (x:="are_weights") (st:=iT) (f:=f35) (ps:=["w"]) X G ⟨a35,_,_,_,_,_,_,_,_,_,l35,c35,k35⟩ fun _ _ _ _ _ _ us hl=>match us,hl with | [_],_=>rfl
 obtain⟨fd36,D36,b36⟩:=DfIn.ok (x:="judge") (st:=ic) (f:=fa) (ps:=["ring","t","w","p"]) X G ⟨a36,_,_,_,_,_,_,_,_,_,l36,c36,k36⟩ fun _ _ _ _ _ _ us hl=>match us,hl with | [_,_,_,_],_=>rfl
 have F0c:=mW (st:=ly) el0 ec0 ek0
 have K0:=Kl.mk (fs:=["stops","ties"]) (ps:=["self","stops","ties"]) ⟨ep0,eh0,eo0,es0⟩ (fun y hy=>by
  simp only[List.mem_cons,List.not_mem_nil,or_false] at hy
  rcases hy with rfl | rfl
  ·exact en0_0
  ·exact en0_1) (W.mg_of X G ea0) ⟨em0,ei0,ef0,ekc0⟩ F0c (F0c.binds (ps:=["self","stops","ties"]) fun _ _ _ _ _ _ us hl=>match us,hl with | [_,_,_],_=>rfl)
 have F1c:=mW (st:=ib) el1 ec1 ek1
 have K1:=Kl.mk (fs:=["refusal","moments"]) (ps:=["self","refusal","moments"]) ⟨ep1,eh1,eo1,es1⟩ (fun y hy=>by
  simp only[List.mem_cons,List.not_mem_nil,or_false] at hy
  rcases hy with rfl | rfl
  ·exact en1_0
  ·exact en1_1) (W.mg_of X G ea1) ⟨em1,ei1,ef1,ekc1⟩ F1c (F1c.binds (ps:=["self","refusal","moments"]) fun _ _ _ _ _ _ us hl=>match us,hl with | [_,_,_],_=>rfl)
 have hC:ExC K mg "NoPiece" C:=⟨W.mg_of X G eC,xC⟩
 have FN:=mW (st:=lx) xl xc xk
 have KN:=KNpt.mk (W.mg_of X G xa) xe xkc FN (FN.binds (ps:=["self","line"]) fun _ _ _ _ _ _ us hl=>match us,hl with | [_,_],_=>rfl)
 have m_abs:=W.mg_none_of X G n_abs
 have m_all:=W.mg_none_of X G n_all
 have m_any:=W.mg_none_of X G n_any
 have m_enumerate:=W.mg_none_of X G n_enumerate
 have m_int:=W.mg_none_of X G n_int
 have m_len:=W.mg_none_of X G n_len
 have m_ord:=W.mg_none_of X G n_ord
 have m_range:=W.mg_none_of X G n_range
 have m_reversed:=W.mg_none_of X G n_reversed
 have m_sorted:=W.mg_none_of X G n_sorted
 have m_tuple:=W.mg_none_of X G n_tuple
 have m_zip:=W.mg_none_of X G n_zip
 refine⟨fd36,b36,fun base _ _=>?_⟩
 have G0:FnOk P w K mg base CX0 1 f0 fd0 _ _:=u0 D0
 have G1:FnOk P w K mg base CX0 2 f1 fd1 _ _:=yp D1 ⟨_,W.mg_of X G v16,r16⟩
 have G2:FnOk P w K mg base CX0 3 f2 fd2 _ _:=wN D2 D1 G1 m_len m_all m_zip
 have G3:FnOk P w K mg base CX0 4 f3 fd3 _ _:=vf D3 D0 D2 G0 G2 (GTIn.ok X G ⟨t6,_,_,_,tl6,tz6,tw6⟩)
 have G4:FnOk P w K mg base CX0 5 f4 fd4 _ _:=mJ D4 D3 G3 ⟨_,W.mg_of X G v15,r15⟩ m_range
 have G5:FnOk P w K mg base CX0 6 f5 fd5 _ _:=sy D5 D4 G4
 have G6:FnOk P w K mg base CX0 2 f6 fd6 _ _:=vb D6 m_all
 have G7:FnOk P w K mg base CX0 1 f7 fd7 _ _:=uX D7 ⟨_,W.mg_of X G v24,r24⟩
 have G8:FnOk P w K mg base CX0 1 f8 fd8 _ _:=nV D8 (GTIn.ok X G ⟨t6,_,_,_,tl6,tz6,tw6⟩) ⟨_,W.mg_of X G v21,r21⟩ ⟨_,W.mg_of X G v16,r16⟩ ⟨_,W.mg_of X G v22,r22⟩ m_abs
 have G9:FnOk P w K mg base CX0 1 f9 fd9 _ _:=pF D9 m_zip
 have G10:FnOk P w K mg base CX0 2 f10 fd10 _ _:=vc D10 D9 G9 m_any
 have G11:FnOk P w K mg base CX0 3 f11 fd11 _ _:=ve D11 D10 G10 (GTIn.ok X G ⟨t6,_,_,_,tl6,tz6,tw6⟩) ⟨_,W.mg_of X G v20,r20⟩ ⟨_,W.mg_of X G v23,r23⟩ m_abs
 have G12:FnOk P w K mg base CX0 7 f12 fd12 _ _:=vg D12 D5 D6 K0 G5 G6 m_enumerate
 have G13:FnOk P w K mg base CX0 4 f13 fd13 _ _:=u9 D13 D7 D8 D11 K0 G7 G8 G11 m_enumerate
 have G14:FnOk P w K mg base CX0 2 f14 fd14 _ _:=wI D14 m_enumerate
 have G15:FnOk P w K mg base CX0 3 f15 fd15 _ _:=nU D15 K0 D14 G14 ⟨_,W.mg_of X G v11,r11⟩ ⟨_,W.mg_of X G v12,r12⟩ m_sorted
 have G16:FnOk P w K mg base CX0 2 f16 fd16 _ _:=sM D16 ⟨_,W.mg_of X G v0,r0⟩ m_ord
 have G17:FnOk P w K mg base (CXF P w C) 2 f17 fd17 _ _:=wM D17 hC m_len m_enumerate
 have G18:FnOk P w K mg base (CXF P w C) 2 f18 fd18 _ _:=sL D18 hC ⟨_,W.mg_of X G v3,r3⟩
 have G19:FnOk P w K mg base (CXF P w C) 3 f19 fd19 _ _:=sK D19 D17 D18 G17 G18 ⟨_,W.mg_of X G v4,r4⟩ (GTIn.ok X G ⟨t0,_,_,_,tl0,tz0,tw0⟩)
 have G20:FnOk P w K mg base (CXF P w C) 3 f20 fd20 _ _:=pG D20 D17 D18 G17 G18 ⟨_,W.mg_of X G v5,r5⟩ (GTIn.ok X G ⟨t1,_,_,_,tl1,tz1,tw1⟩) m_reversed
 have G21:FnOk P w K mg base (CXF P w C) 2 f21 fd21 _ _:=vh D21 hC m_len ⟨_,W.mg_of X G v6,r6⟩ ⟨_,W.mg_of X G v7,r7⟩ ⟨_,W.mg_of X G v8,r8⟩ ⟨_,W.mg_of X G v9,r9⟩
 have G22:FnOk P w K mg base (CXF P w C) 3 f22 fd22 _ _:=pH D22 D21 G21 (GTIn.ok X G ⟨t2,_,_,_,tl2,tz2,tw2⟩) (GTIn.ok X G ⟨t3,_,_,_,tl3,tz3,tw3⟩) (GTIn.ok X G ⟨t4,_,_,_,tl4,tz4,tw4⟩) ⟨_,W.mg_of X G v3,r3⟩
 have G23:FnOk P w K mg base (CXF P w C) 4 f23 fd23 _ _:=sJ D23 D22 G22
 have G24:FnOk P w K mg base (CXF P w C) 5 f24 fd24 _ _:=uW D24 D19 D20 D23 G19 G20 G23 hC m_zip
 have G25:FnOk P w K mg base (CXF P w C) 2 f25 fd25 _ _:=sw D25 hC ⟨W.mg_of X G eL,mL⟩
 have G26:FnOk P w K mg base (CXF P w C) 6 f26 fd26 _ _:=su D26 D25 D24 G25 G24 hC
 have G27:FnOk P w K mg base (CXF P w C) 7 f27 fd27 _ _:=va D27 D26 G26 hC
 have G28:FnOk P w K mg base (CXF P w C) 8 f28 fd28 _ _:=u7 D28 D16 D27 G16 G27 hC ⟨_,W.mg_of X G v1,r1⟩ (GTIn.ok X G ⟨t5,_,_,_,tl5,tz5,tw5⟩) ⟨_,W.mg_of X G v10,r10⟩ m_len
 have G29:FnOk P w K mg base CX0 1 f29 fd29 _ _:=yq D29 ⟨_,W.mg_of X G v25,r25⟩ m_len
 have G30:FnOk P w K mg base CX0 2 f30 fd30 _ _:=wO D30 D29 G29 m_len m_int
 have G31:FnOk P w K mg base CX0 3 f31 fd31 _ _:=wJ D31 D29 D30 G29 G30 m_len m_zip m_int m_tuple
 have G32:FnOk P w K mg base (CXD P w CN) 4 f32 fd32 _ _:=uY D32 D16 D31 K0 KN G16 G31 ⟨_,W.mg_of X G v2,r2⟩ m_len m_enumerate
 have G33:FnOk P w K mg base CX0 9 f33 fd33 _ _:=nS D33 D28 D15 K1 G28 G15 hC ⟨_,W.mg_of X G v13,r13⟩ ⟨_,W.mg_of X G v14,r14⟩ m_len
 have G35:FnOk P w K mg base CX0 2 f35 fd35 _ _:=wP D35 ⟨_,W.mg_of X G v18,r18⟩ ⟨_,W.mg_of X G v19,r19⟩ m_len m_all
 have G34:FnOk P w K mg base CX0 10 f34 fd34 _ _:=pE D34 D33 D35 K1 G33 G35
 exact vd D36 D34 D32 D12 D13 K1 KN G34 G32 G12 G13 ⟨_,W.mg_of X G v17,r17⟩ m_len
theorem nat_list:∀{zs:List Int},(∀z∈zs,0<=z/\z<=255)->∃ns:List Nat,zs=ns.map (fun (n:Nat)=>(n:Int))/\∀n∈ns,n<256
 | [],_=>⟨[],rfl,by simp⟩
 | z::zs,h=>by
  obtain⟨ns,e,hn⟩:=nat_list (zs:=zs) fun y hy=>h y (by simp[hy])
  have hz:=h z (by simp)
  refine⟨z.toNat::ns,?_,?_⟩
  ·rw[List.map_cons,← e]
   congr 1
   omega
  ·intro n hn'
   rcases List.mem_cons.mp hn' with rfl | q
   ·omega
   ·exact hn n q
theorem nat_listW:∀{zs:List Int},(∀z∈zs,0<=z)->∃ns:List Nat,zs=ns.map (fun (n:Nat)=>(n:Int))
 | [],_=>⟨[],rfl⟩
 | z::zs,h=>by
  obtain⟨ns,e⟩:=nat_listW (zs:=zs) fun y hy=>h y (by simp[hy])
  have hz:=h z (by simp)
  refine⟨z.toNat::ns,?_⟩
  rw[List.map_cons,← e]
  congr 1
  omega
theorem inLen_le {α:Type}{lo hi:Nat}{l:List α} (h:Codec.inLen lo hi l=true):l.length<=hi:=by
 unfold Codec.inLen Codec.inNat at h
 rw[Bool.and_eq_true,decide_eq_true_eq,decide_eq_true_eq] at h
 exact h.2
end LP
namespace PySem.W.Fast
theorem tw1765979271756719865:True:=trivial
theorem tw1247851286663755428:True:=trivial
theorem tw11518151375784339051:True:=trivial
theorem tw2663945064580026211:True:=trivial
theorem tw16514281384788282354:True:=trivial
theorem tw14811651015484746132:True:=trivial
theorem tw18182553390113944521:True:=trivial
theorem tw9597708771729288958:True:=trivial
theorem tw12496569502672436306:True:=trivial
theorem tw18239937898500979992:True:=trivial
theorem tw16981309776159807022:True:=trivial
theorem tw3772128093519295742:True:=trivial
theorem tw1343451282736277314:True:=trivial
theorem tw3688694741609324444:True:=trivial
theorem tw7103401548062378664:True:=trivial
theorem tw11489466145875929988:True:=trivial
theorem tw16948494212703563943:True:=trivial
theorem tw14999969698645126960:True:=trivial
theorem tw17307614249817085019:True:=trivial
theorem tw16825873829877837289:True:=trivial
theorem tw15173648375372171824:True:=trivial
theorem tw5149882191384179889:True:=trivial
theorem tw17154801297740194463:True:=trivial
theorem tw15859303823974278305:True:=trivial
theorem tw7351545271152594525:True:=trivial
theorem tw4150077193656079642:True:=trivial
theorem tw5672070299971114965:True:=trivial
theorem tw4770408487349276364:True:=trivial
theorem tw16057792630257254311:True:=trivial
theorem tw17441980387302586442:True:=trivial
theorem tw4485749061986712011:True:=trivial
theorem tw5478658719703641934:True:=trivial
theorem tw9044288976239308374:True:=trivial
theorem tw14003183006217592389:True:=trivial
theorem tw7165086380487140093:True:=trivial
theorem tw10117005206682387132:True:=trivial
theorem tw16322598238885624485:True:=trivial
theorem tw10172456775190044132:True:=trivial
theorem tw10295306559735117023:True:=trivial
theorem tw1066221800157509108:True:=trivial
theorem tw124416666290947107:True:=trivial
theorem tw757932054828945690:True:=trivial
theorem tw10641811013746045984:True:=trivial
theorem tw7223850795765950142:True:=trivial
theorem tw8792643109430715791:True:=trivial
theorem tw10409622577897628198:True:=trivial
theorem tw5710990655566072355:True:=trivial
end PySem.W.Fast
open PySem PySem.W PyProof.Rows
set_option maxRecDepth 100000 in
set_option maxHeartbeats 0 in
theorem PySem.Challenge.cw_lutefingers_s05_judge_holds : PySem.Challenge.rw_lutefingers_s05_judge.Holds := by
 w_on;k_headS;(case hw=>exact⟨[.int 0,.list [],.list [],.list []],by decide +kernel,by decide +kernel⟩)
 k_fillS
 refine L2.walk_specK (r:=PySem.Challenge.rw_lutefingers_s05_judge) (k:=11) (CX:=L2.CX0) (ps:=["ring","t","w","p"]) (sp:=LP.spJudge) (by decide +kernel) rfl rfl ⟨rfl,by decide,by decide⟩ (fun w h Y=>PySem.W.kIn_of Y) ?F ?S (fun _ _ _ _ z=>z)
 case F =>
  intro w mg fa h Y KX G hmg
  refine' LP.all_mk KX G hmg ?a0 ?l0 ?c0 ?k0 ?a1 ?l1 ?c1 ?k1 ?a2 ?l2 ?c2 ?k2 ?a3 ?l3 ?c3 ?k3 ?a4 ?l4 ?c4 ?k4 ?a5 ?l5 ?c5 ?k5 ?a6 ?l6 ?c6 ?k6 ?a7 ?l7 ?c7 ?k7 ?a8 ?l8 ?c8 ?k8 ?a9 ?l9 ?c9 ?k9 ?a10 ?l10 ?c10 ?k10 ?a11 ?l11 ?c11 ?k11 ?a12 ?l12 ?c12 ?k12 ?a13 ?l13 ?c13 ?k13 ?a14 ?l14 ?c14 ?k14 ?a15 ?l15 ?c15 ?k15 ?a16 ?l16 ?c16 ?k16 ?a17 ?l17 ?c17 ?k17 ?a18 ?l18 ?c18 ?k18 ?a19 ?l19 ?c19 ?k19 ?a20 ?l20 ?c20 ?k20 ?a21 ?l21 ?c21 ?k21 ?a22 ?l22 ?c22 ?k22 ?a23 ?l23 ?c23 ?k23 ?a24 ?l24 ?c24 ?k24 ?a25 ?l25 ?c25 ?k25 ?a26 ?l26 ?c26 ?k26 ?a27 ?l27 ?c27 ?k27 ?a28 ?l28 ?c28 ?k28 ?a29 ?l29 ?c29 ?k29 ?a30 ?l30 ?c30 ?k30 ?a31 ?l31 ?c31 ?k31 ?a32 ?l32 ?c32 ?k32 ?a33 ?l33 ?c33 ?k33 ?a34 ?l34 ?c34 ?k34 ?a35 ?l35 ?c35 ?k35 ?a36 ?l36 ?c36 ?k36 ?ea0 ?ei0 ?ef0 ?el0 ?ec0 ?ek0 ?ep0 ?eh0 ?eo0 ?es0 ?em0 ?ekc0 ?en0_0 ?en0_1 ?ea1 ?ei1 ?ef1 ?el1 ?ec1 ?ek1 ?ep1 ?eh1 ?eo1 ?es1 ?em1 ?ekc1 ?en1_0 ?en1_1 ?eC ?xC ?xa ?xi ?xl ?xc ?xk ?xkc ?xe ?v0 ?r0 ?v1 ?r1 ?v2 ?r2 ?v3 ?r3 ?v4 ?r4 ?v5 ?r5 ?v6 ?r6 ?v7 ?r7 ?v8 ?r8 ?v9 ?r9 ?v10 ?r10 ?v11 ?r11 ?v12 ?r12 ?v13 ?r13 ?v14 ?r14 ?v15 ?r15 ?v16 ?r16 ?v17 ?r17 ?v18 ?r18 ?v19 ?r19 ?v20 ?r20 ?v21 ?r21 ?v22 ?r22 ?v23 ?r23 ?v24 ?r24 ?v25 ?r25 ?t0 ?tl0 ?tz0 ?tw0 ?t1 ?tl1 ?tz1 ?tw1 ?t2 ?tl2 ?tz2 ?tw2 ?t3 ?tl3 ?tz3 ?tw3 ?t4 ?tl4 ?tz4 ?tw4 ?t5 ?tl5 ?tz5 ?tw5 ?t6 ?tl6 ?tz6 ?tw6 ?eL ?mL ?n_abs ?n_all ?n_any ?n_enumerate ?n_int ?n_len ?n_ord ?n_range ?n_reversed ?n_sorted ?n_tuple ?n_zip
  case a0|l0|c0|k0|a1|l1|c1|k1|a2|l2|c2|k2|a3|l3|c3|k3|a4|l4|c4|k4|a5|l5|c5|k5|a6|l6|c6|k6|a7|l7|c7|k7|a8|l8|c8|k8|a9|l9|c9|k9|a10|l10|c10|k10|a11|l11|c11|k11|a12|l12|c12|k12|a13|l13|c13|k13|a14|l14|c14|k14|a15|l15|c15|k15|a16|l16|c16|k16|a17|l17|c17|k17|a18|l18|c18|k18|a19|l19|c19|k19|a20|l20|c20|k20|a21|l21|c21|k21|a22|l22|c22|k22|a23|l23|c23|k23|a24|l24|c24|k24|a25|l25|c25|k25|a26|l26|c26|k26|a27|l27|c27|k27|a28|l28|c28|k28|a29|l29|c29|k29|a30|l30|c30|k30|a31|l31|c31|k31|a32|l32|c32|k32|a33|l33|c33|k33|a34|l34|c34|k34|a35|l35|c35|k35|a36|l36|c36|k36|ea0|ei0|ef0|el0|ec0|ek0|ep0|eh0|eo0|es0|em0|ekc0|en0_0|en0_1|ea1|ei1|ef1|el1|ec1|ek1|ep1|eh1|eo1|es1|em1|ekc1|en1_0|en1_1|eC=>k_is
  case xC=>k_exc
  case xa|xi|xl|xc|xk|xkc=>k_is
  (case xe=>kernel_rfl);(case v0=>k_is);(case r0=>exact⟨_,rfl⟩);(case v1=>k_is)
  (case r1=>exact⟨_,rfl⟩);(case v2=>k_is);(case r2=>exact⟨_,rfl⟩);(case v3=>k_is)
  (case r3=>exact⟨_,rfl⟩);(case v4=>k_is);(case r4=>exact⟨_,rfl⟩);(case v5=>k_is)
  (case r5=>exact⟨_,rfl⟩);(case v6=>k_is);(case r6=>exact⟨_,rfl⟩);(case v7=>k_is)
  (case r7=>exact⟨_,rfl⟩);(case v8=>k_is);(case r8=>exact⟨_,rfl⟩);(case v9=>k_is)
  (case r9=>exact⟨_,rfl⟩);(case v10=>k_is);(case r10=>exact⟨_,rfl⟩);(case v11=>k_is)
  (case r11=>exact⟨_,rfl⟩);(case v12=>k_is);(case r12=>exact⟨_,rfl⟩);(case v13=>k_is)
  (case r13=>exact⟨_,rfl⟩);(case v14=>k_is);(case r14=>exact⟨_,rfl⟩);(case v15=>k_is)
  (case r15=>exact⟨_,rfl⟩);(case v16=>k_is);(case r16=>exact⟨_,rfl⟩);(case v17=>k_is)
  (case r17=>exact⟨_,rfl⟩);(case v18=>k_is);(case r18=>exact⟨_,rfl⟩);(case v19=>k_is)
  (case r19=>exact⟨_,rfl⟩);(case v20=>k_is);(case r20=>exact⟨_,rfl⟩);(case v21=>k_is)
  (case r21=>exact⟨_,rfl⟩);(case v22=>k_is);(case r22=>exact⟨_,rfl⟩);(case v23=>k_is)
  (case r23=>exact⟨_,rfl⟩);(case v24=>k_is);(case r24=>exact⟨_,rfl⟩);(case v25=>k_is)
  (case r25=>exact⟨_,rfl⟩);(case t0=>k_is);(case tl0=>k_is);(case tz0=>decide)
  case tw0=>rfl
  case t1|tl1=>k_is
  case tz1=>decide
  case tw1=>rfl
  case t2|tl2=>k_is
  case tz2=>decide
  case tw2=>rfl
  case t3|tl3=>k_is
  case tz3=>decide
  case tw3=>rfl
  case t4|tl4=>k_is
  case tz4=>decide
  case tw4=>rfl
  case t5|tl5=>k_is
  case tz5=>decide
  case tw5=>rfl
  case t6|tl6=>k_is
  case tz6=>decide
  (case tw6=>rfl);(case eL=>k_is);(case mL=>first | kernel_rfl | rfl);(case n_abs=>k_is)
  case n_all|n_any|n_enumerate|n_int|n_len|n_ord|n_range|n_reversed|n_sorted|n_tuple|n_zip=>k_is
 case S =>
  intro K H xs a hO hwi hask hx
  obtain⟨a0,a1,a2,a3,u⟩:=a
  have q:(Codec.inInt 0 2147483647 a0&&((Codec.inLen 0 100000 a1&&a1.all (Codec.inInt 0 255))&&((Codec.inLen 0 12 a2&&a2.all (Codec.inInt 0 2147483647))&&((Codec.inLen 0 100000 a3&&a3.all (Codec.inInt 0 255))&&true))))=true:=hwi
  simp only[Bool.and_eq_true,Bool.and_true,List.all_eq_true] at q
  obtain⟨q0,⟨q1l,q1⟩,⟨q2l,q2⟩,q3l,q3⟩:=q
  have c0:=Codec.inInt_iff.mp q0
  obtain⟨z0,rfl⟩:∃n:Nat,a0=(n:Int):=⟨a0.toNat,(Int.toNat_of_nonneg c0.1).symm⟩
  have l1:=LP.inLen_le q1l
  obtain⟨ns1,rfl,hns1⟩:=LP.nat_list (zs:=a1) fun z hz=>Codec.inInt_iff.mp (q1 z hz)
  have l2:=LP.inLen_le q2l
  obtain⟨ns2,rfl⟩:=LP.nat_listW (zs:=a2) fun z hz=>(Codec.inInt_iff.mp (q2 z hz)).1
  have l3:=LP.inLen_le q3l
  obtain⟨ns3,rfl,hns3⟩:=LP.nat_list (zs:=a3) fun z hz=>Codec.inInt_iff.mp (q3 z hz)
  have Le1:ns1.length<=100000:=by rw[List.length_map] at l1;exact l1
  have Le2:ns2.length<=12:=by rw[List.length_map] at l2;exact l2
  have Le3:ns3.length<=100000:=by rw[List.length_map] at l3;exact l3
  have eS:=LP.judge_spec hns1 hns3 Le3 z0 ns2
  cases hx with
  | cons h0 t1 =>
   cases t1 with
   | cons h1 t2 =>
    cases t2 with
    | cons h2 t3 =>
     cases t3 with
     | cons h3 t4 =>
      cases t4
      cases h0
      cases h1 with
      | lst hs1 ha1 =>
       have e1:=L2.ints_dw _ _ ha1
       subst e1
       cases h2 with
       | lst hs2 ha2 =>
        have e2:=L2.ints_dw _ _ ha2
        subst e2
        cases h3 with
        | lst hs3 ha3 =>
         have e3:=L2.ints_dw _ _ ha3
         subst e3
         refine⟨z0,_,_,_,ns1,ns2,ns3,rfl,(by rw[List.map_map] at hs1;exact hs1),(by rw[List.map_map] at hs2;exact hs2),(by rw[List.map_map] at hs3;exact hs3),Le2,Le3,fun H' p hp=>?_⟩
         show L2.Dw K H' (.ref p) (.list ((PyWqauco.judge (z0:Int) (ns1.map fun (n:Nat)=>(n:Int)) (ns2.map fun (n:Nat)=>(n:Int)) (ns3.map fun (n:Nat)=>(n:Int))).map WData.int))
         rw[eS]
         exact .lst (L2.SqL.of hp) (L2.dw_ints _)
#print axioms PySem.Challenge.cw_lutefingers_s05_judge_holds
end
