import PyProof.Rows.All
import Wide.All
import OpenK.AllK
import Wide.FinOn
import PyProof.EqAt
import PyProof.EqKinds
import PyProof.TupleCall
import KE.BitLaws
import Open.SpecLaws
import KE.OsHead
import KE.OsGo
import KE.KDictSum
import PySem.Challenge.RW_patchstores_s01_answers
set_option Elab.async false
set_option linter.all false
set_option maxRecDepth 100000
set_option maxHeartbeats 4000000
section
namespace L2
open PySem PySem.Spec PyProof.Rows
abbrev Key:=Sum Int Str
def Kc:Key->Value->Bool
 |.inl k,v=>Value.isInt k v
 |.inr x,v=>Value.isStrOf x v
def Yr (w:World):Key->Int
 |.inl k=>hashInt k
 |.inr x=>hashStr w x
theorem Bq:∀{k:Key} {v:Value},Kc k v=true->(∃i t,k=Sum.inl i/\v=Value.int i t)\/(∃x t,k=Sum.inr x/\v=Value.str x t)
 |.inl i,v,h=>by
  obtain ⟨t,e⟩:=Value.isInt_shape (k:=i) (v:=v) h
  exact .inl ⟨i,t,rfl,e⟩
 |.inr x,v,h=>by
  obtain ⟨t,e⟩:=Value.isStrOf_shape (x:=x) (v:=v) h
  exact .inr ⟨x,t,rfl,e⟩
theorem VU (i:Int) (t:Tok):Kc (.inl i) (.int i t)=true:=by simp[Kc,Value.isInt]
theorem Vj (x:Str) (t:Tok):Kc (.inr x) (.str x t)=true:=by simp[Kc,Value.isStrOf]
theorem Xp (a b:Int):decide ((Sum.inl a:Key)=Sum.inl b)=(a==b):=by
 by_cases e:a=b
 ·subst e;simp
 ·have h:¬(Sum.inl a:Key)=Sum.inl b:=fun q=>e (Sum.inl.inj q)
  rw[decide_eq_false h]
  exact (beq_eq_false_iff_ne.mpr e).symm
theorem Xo (a b:Str):decide ((Sum.inr a:Key)=Sum.inr b)=decide (a=b):=by
 by_cases e:a=b
 ·subst e;simp
 ·have h:¬(Sum.inr a:Key)=Sum.inr b:=fun q=>e (Sum.inr.inj q)
  rw[decide_eq_false h,decide_eq_false e]
theorem Xz (a:Int) (b:Str):decide ((Sum.inl a:Key)=Sum.inr b)=false:=decide_eq_false (fun q=>nomatch q)
theorem Xk (a:Str) (b:Int):decide ((Sum.inr a:Key)=Sum.inl b)=false:=decide_eq_false (fun q=>nomatch q)
def B3 (prog:Program) (w:World):PySem.KeyKind prog w Key where
 is:=Kc
 hash:=Yr w
 inj:=fun v a b ha hb=>by
  rcases Bq ha with ⟨i,t,rfl,rfl⟩|⟨x,t,rfl,rfl⟩
  ·rcases Bq hb with ⟨j,u,rfl,e⟩|⟨y,u,rfl,e⟩
   ·injection e with e1 _;rw[e1]
   ·exact nomatch e
  ·rcases Bq hb with ⟨j,u,rfl,e⟩|⟨y,u,rfl,e⟩
   ·exact nomatch e
   ·injection e with e1 _;rw[e1]
 byValue:=fun k v h=>by
  rcases Bq h with ⟨i,t,rfl,rfl⟩|⟨x,t,rfl,rfl⟩<;>rfl
 pyHash:=fun hv h=>by
  rcases Bq hv with ⟨i,t,rfl,rfl⟩|⟨x,t,rfl,rfl⟩
  ·exact wpAny_pyHash_int h
  ·exact wpAny_pyHash_str h
 eqBool:=fun hu hv h=>by
  rcases Bq hu with ⟨i,t,rfl,rfl⟩|⟨x,t,rfl,rfl⟩
  ·rcases Bq hv with ⟨j,u,rfl,rfl⟩|⟨y,u,rfl,rfl⟩
   ·rw[Xp]at h;exact wpAny_eqBool_int h
   ·rw[Xz]at h;exact SeqAt.EqAt.int_str i t y u _ _ _ _ h
  ·rcases Bq hv with ⟨j,u,rfl,rfl⟩|⟨y,u,rfl,rfl⟩
   ·rw[Xk]at h;exact SeqAt.EqAt.str_int x t j u _ _ _ _ h
   ·rw[Xo]at h;exact wpAny_eqBool_str h
 «strs»:=fun k x t v h=>by
  rcases Bq h with ⟨i,u,rfl,e⟩|⟨y,u,rfl,e⟩
  ·exact nomatch e
  ·injection e with e1 _
   subst e1
   cases v<;>rfl
theorem Sq (prog:Program) (w:World) (i:Int) (t:Tok):(B3 prog w).is (.inl i) (.int i t)=true:=VU i t
theorem Sy (prog:Program) (w:World) (x:Str) (t:Tok):(B3 prog w).is (.inr x) (.str x t)=true:=Vj x t
end L2
namespace L2
open PySem PySem.Spec PyProof.Rows
inductive V where
 |non|bl (b:Bool)|int (i:Int)|str (x:Str)|byt (b:Array UInt8)|flt (b:UInt64)|ref (a:Addr)|ty (n:String)
 deriving DecidableEq
def RelV:V->Value->Prop
 |.non,u=>u=Value.none
 |.bl b,u=>u=Value.bool b
 |.int i,u=>∃t,u=Value.int i t
 |.str x,u=>∃t,u=Value.str x t
 |.byt b,u=>∃t,u=Value.bytes b t
 |.flt b,u=>∃t,u=Value.float b t
 |.ref a,u=>u=Value.ref a
 |.ty n,u=>u=Value.type n
abbrev AS:List V->List Value->Prop:=Paired RelV
theorem AS.length {xs:List V} {us:List Value} (r:AS xs us):xs.length=us.length:=Paired.length r
theorem AS.get:∀{xs:List V} {us:List Value} {i:Nat} {x:V},AS xs us->xs[i]?=some x->∃u,us[i]?=some u/\RelV x u
 |_,_,_,_,.nil,e=>by simp at e
 |_,_,0,_,.cons r _,e=>by simp at e;subst e;exact ⟨_,rfl,r⟩
 |_,_,i+1,x,.cons _ t,e=>by
  obtain ⟨u,h1,h2⟩:=AS.get (i:=i) (x:=x) t (by simpa using e)
  exact ⟨u,by simpa using h1,h2⟩
theorem AS.set {x:V} {u:Value} (r:RelV x u):∀{xs:List V} {us:List Value} (i:Nat),AS xs us->AS (xs.set i x) (us.set i u)
 |_,_,_,.nil=>.nil
 |_,_,0,.cons _ t=>.cons r t
 |_,_,i+1,.cons q t=>.cons q (AS.set r i t)
theorem AS.append:∀{xs ys:List V} {us ws:List Value},AS xs us->AS ys ws->AS (xs++ys) (us++ws)
 |_,_,_,_,.nil,s=>s
 |_,_,_,_,.cons r t,s=>.cons r (AS.append t s)
theorem AS.take:∀{xs:List V} {us:List Value} (n:Nat),AS xs us->AS (xs.take n) (us.take n)
 |_,_,0,_=>.nil
 |_,_,_+1,.nil=>.nil
 |_,_,n+1,.cons r t=>.cons r (AS.take n t)
theorem AS.drop:∀{xs:List V} {us:List Value} (n:Nat),AS xs us->AS (xs.drop n) (us.drop n)
 |_,_,0,r=>r
 |_,_,_+1,.nil=>.nil
 |_,_,n+1,.cons _ t=>AS.drop n t
def Ds:Option V->Option Value->Prop
 |some v,some u=>RelV v u
 |none,none=>True
 |_,_=>False
def KV {κ:Type}:List (κ×V)->List (κ×Value)->Prop:=Paired fun (p:κ×V) (q:κ×Value)=>p.1=q.1/\RelV p.2 q.2
def kV:Key->V
 |.inl i=>.int i
 |.inr x=>.str x
inductive HO where
 /-- a list -/
 |lst (xs:List V)
 /-- a tuple (never changes) -/
 |tup (xs:List V)
 /-- a dict whose keys are ints and texts;one whose keys are tuples of ints and texts (the empty one is both) -/
 |dK (kvs:List (Key×V))|dT (kvs:List (List Key×V))
 /-- a set of ints:its members,its size -/
 |set (S:Int->Bool) (n:Nat)
 /-- an instance of the class at C,its dict at dx,its attributes -/
 |ins (C dx:Addr) (fs:List (Str×V))
 /-- the dict of the instance at x -/
 |own (x:Addr)
 /-- the dict of an exception -/
 |xd (fs:List (Str×V))
 /-- a bound method,f of x -/
 |met (f x:Addr)
 /-- a range object lo,lo+1,.. below hi -/
 |rng (lo hi:Int)
 /-- a thing that is known to the object (the script;a dict while a loop walks it):read,never written while it is so -/
 |frz (o:Obj) (u:HO)
 /-- a code object's table -/
 |tbl (ps:Array Value)
 /-- any other thing,by what is true of its one object (a def of one's own:SetO a S n:=HO.ext fun h=>..) -/
 |ext (φ:Heap->Prop)
abbrev Hp:=Addr->Option HO
def upd (H:Hp) (a:Addr) (o:HO):Hp:=fun b=>if b=a then some o else H b
theorem A4 {H:Hp} {a:Addr} {o:HO}:upd H a o a=some o:=by unfold upd;rw[if_pos rfl]
theorem A8 {H:Hp} {a b:Addr} {o:HO} (h:b≠a):upd H a o b=H b:=by unfold upd;rw[if_neg h]
theorem C7 {H:Hp} {a:Addr} {o u:HO}:upd (upd H a o) a u=upd H a u:=by
 funext b;unfold upd;split<;>rfl
theorem Dv {H:Hp} {a b:Addr} {o u:HO} (h:H a=some o) (h':H b=some u) (d:o≠u):a≠b:=by
 intro e;subst e;rw[h]at h';exact d (Option.some.inj h')
theorem AV {H:Hp} {a b:Addr} {o:HO} (h:H a=some o) (h':H b=none):a≠b:=by
 intro e;subst e;rw[h]at h';cases h'
section
variable (P:Program) (w:World)
def BV (H:Hp) (h:Heap) (a:Addr):HO->Prop
 |.lst xs=>xs.length<=sizeLine/\∃(its:List Value) (n:Nat),AS xs its/\h.get? a=some {cls:=.type "list",data:=.seq its.toArray n}
 |.tup xs=>xs.length<=sizeLine/\∃its:List Value,AS xs its/\IsTup h a its.toArray
 |.dK kvs=>kvs.length<=sizeLine/\(a==sysModules)=false/\∃vs,KV kvs vs/\h.DictOf (B3 P w) a vs
 |.dT kvs=>kvs.length<=sizeLine/\(a==sysModules)=false/\∃xs:List (List Key×Addr×Value),
   Paired (fun (p:List Key×V) (q:List Key×Addr×Value)=>p.1=q.1/\H q.2.1=some (.tup (p.1.map kV))/\RelV p.2 q.2.2) kvs xs/\
   ∃o es ep,h.get? a=some o/\o.ExactDict/\o.data=.dict es ep/\es.toList=xs.map (entryOfKey (tupleKind (B3 P w)))/\(xs.map (·.1)).Nodup
 |.set S n=>h.SetOf (intKind P w) a S n
 |.ins C dx fs=>H dx=some (.own a)/\fs.length<=1000/\dx≠a/\h.get? a=some (PySem.W.instObj C dx)/\
   ∃mA,h.Ns1 dx mA/\(∀f,Ds (fs.lookup f) (mA f))/\PySem.Within mA (fs.map (·.1))
 |.own _=>∃o,h.get? a=some o
 |.xd fs=>∃mA,h.Ns1 a mA/\∀f,Ds (fs.lookup f) (mA f)
 |.rng lo hi=>∃t u v,h.get? a=some {cls:=.type "range",data:=.fields #[.int lo t,.int hi u,.int 1 v]}
 |.frz o u=>h.get? a=some o/\BV H h a u
 |.tbl ps=>h.get? a=some {cls:=.none,data:=.fields ps}
 |.met f x=>h.get? a=some (PySem.W.methodObj (.ref f) (.ref x))
 |.ext φ=>φ h/\(∃o,h.get? a=some o)/\∀h1 h2:Heap,φ h1->(∀o,h1.get? a=some o->h2.get? a=some o)->φ h2
def HOk (H:Hp) (h:Heap):Prop:=∀a o,H a=some o->BV P w H h a o
end
section
variable {P:Program} {w:World} {H H':Hp} {h h':Heap} {a:Addr} {o:HO}
theorem BV.lt (x:BV P w H h a o):a<h.objs.size:=by
 cases o with
 |lst xs=>obtain ⟨_,_,_,_,e⟩:=x;exact Heap.lt_size e
 |tup xs=>obtain ⟨_,_,_,p⟩:=x;exact p.lt
 |dK kvs=>obtain ⟨_,_,_,_,o,_,_,e,_⟩:=x;exact Heap.lt_size e
 |dT kvs=>obtain ⟨_,_,_,_,o,_,_,e,_⟩:=x;exact Heap.lt_size e
 |set S n=>obtain ⟨o,_,_,_,e,_⟩:=x;exact Heap.lt_size e
 |ins C dx fs=>obtain ⟨_,_,_,e,_⟩:=x;exact Heap.lt_size e
 |own y=>obtain ⟨_,e⟩:=x;exact Heap.lt_size e
 |xd fs=>obtain ⟨_,⟨_,_,_,e,_⟩,_⟩:=x;exact Heap.lt_size e
 |rng lo hi=>obtain ⟨_,_,_,e⟩:=x;exact Heap.lt_size e
 |frz ob u=>obtain ⟨e,_⟩:=x;exact Heap.lt_size e
 |tbl ps=>exact Heap.lt_size (show h.get? a=some _ from x)
 |met f y=>exact Heap.lt_size (show h.get? a=some _ from x)
 |ext φ=>obtain ⟨_,⟨_,e⟩,_⟩:=x;exact Heap.lt_size e
theorem Paired.mapP {α β:Type} {F G:α->β->Prop}:∀{l₁:List α} {l₂:List β},Paired F l₁ l₂->(∀a b,F a b->G a b)->Paired G l₁ l₂
 |_,_,.nil,_=>.nil
 |_,_,.cons r t,f=>.cons (f _ _ r) (Paired.mapP t f)
theorem BV.stay (x:BV P w H h a o) (k:∀b u,(b=a\/H b=some (.own a))->h.get? b=some u->h'.get? b=some u)
  (ho:∀b,H b=some (.own a)->H' b=some (.own a)) (ht:∀b xs,H b=some (.tup xs)->H' b=some (.tup xs)):BV P w H' h' a o:=by
 induction o with
 |lst xs=>obtain ⟨z,its,n,r,e⟩:=x;exact ⟨z,its,n,r,k _ _ (.inl rfl) e⟩
 |tup xs=>obtain ⟨z,its,r,ob,e,c⟩:=x;exact ⟨z,its,r,ob,k _ _ (.inl rfl) e,c⟩
 |dK kvs=>obtain ⟨z,y,vs,r,ob,es,ep,e,c⟩:=x;exact ⟨z,y,vs,r,ob,es,ep,k _ _ (.inl rfl) e,c⟩
 |dT kvs=>
  obtain ⟨z,y,xs,r,ob,es,ep,e,c⟩:=x
  exact ⟨z,y,xs,Paired.mapP r fun p q z=>⟨z.1,ht _ _ z.2.1,z.2.2⟩,ob,es,ep,k _ _ (.inl rfl) e,c⟩
 |set S n=>obtain ⟨ob,es,ep,t,e,c⟩:=x;exact ⟨ob,es,ep,t,k _ _ (.inl rfl) e,c⟩
 |ins C dx fs=>
  obtain ⟨d,z,ne,e,mA,⟨od,es,ep,e2,c⟩,r⟩:=x
  exact ⟨ho _ d,z,ne,k _ _ (.inl rfl) e,mA,⟨od,es,ep,k _ _ (.inr d) e2,c⟩,r⟩
 |own y=>obtain ⟨ob,e⟩:=x;exact ⟨ob,k _ _ (.inl rfl) e⟩
 |xd fs=>obtain ⟨mA,⟨od,es,ep,e,c⟩,r⟩:=x;exact ⟨mA,⟨od,es,ep,k _ _ (.inl rfl) e,c⟩,r⟩
 |rng lo hi=>obtain ⟨t,u,v,e⟩:=x;exact ⟨t,u,v,k _ _ (.inl rfl) e⟩
 |frz ob u ih=>obtain ⟨e,q⟩:=x;exact ⟨k _ _ (.inl rfl) e,ih q⟩
 |tbl ps=>
  have e:h.get? a=some {cls:=.none,data:=.fields ps}:=x
  show h'.get? a=some {cls:=.none,data:=.fields ps}
  exact k a _ (.inl rfl) e
 |met f y=>
  have e:h.get? a=some (PySem.W.methodObj (.ref f) (.ref y)):=x
  show h'.get? a=some (PySem.W.methodObj (.ref f) (.ref y))
  exact k a _ (.inl rfl) e
 |ext φ=>obtain ⟨p,⟨o,e⟩,st⟩:=x;exact ⟨st _ _ p fun o q=>k _ _ (.inl rfl) q,⟨o,k _ _ (.inl rfl) e⟩,st⟩
theorem HOk.lt (x:HOk P w H h) (e:H a=some o):a<h.objs.size:=(x a o e).lt
theorem HOk.fresh (x:HOk P w H h) (e:h.objs.size<=a):H a=none:=by
 cases q:H a with
 |none=>rfl
 |some u=>exact absurd (Nat.lt_of_lt_of_le (x.lt q) e) (Nat.lt_irrefl _)
theorem HOk.kept (x:HOk P w H h) (k:∀b u,h.get? b=some u->h'.get? b=some u):HOk P w H h':=fun a o e=>
 (x a o e).stay (fun b u _ q=>k b u q) (fun _ q=>q) fun _ _ q=>q
theorem HOk.laid (x:HOk P w H h) (k:∀b u,h.get? b=some u->h'.get? b=some u) (hp:h.objs.size<=a) (new:BV P w (upd H a o) h' a o):HOk P w (upd H a o) h':=fun b u e=>by
 have hn:=x.fresh hp
 by_cases hb:b=a
 ·subst hb;rw[A4]at e;cases e;exact new
 ·rw[A8 hb]at e
  exact (x b u e).stay (fun c v _ q=>k c v q) (fun c q=>by rw[A8 (AV q hn)];exact q) fun c xs q=>by rw[A8 (AV q hn)];exact q
end
def Rd (H:Hp) (a:Addr) (u:HO):Prop:=H a=some u\/∃o,H a=some (.frz o u)
theorem Rd.ok {P:Program} {w:World} {H:Hp} {h:Heap} {a:Addr} {u:HO} (r:Rd H a u) (x:HOk P w H h):BV P w H h a u:=by
 rcases r with r|⟨o,r⟩
 ·exact x a u r
 ·obtain ⟨_,q⟩:=x a _ r
  exact q
def Mut:Option HO->Prop
 |some (.lst _)=>True
 |some (.dK _)=>True
 |some (.dT _)=>True
 |some (.set _ _)=>True
 |some (.ins _ _ _)=>True
 |some (.ext _)=>True
 |_=>False
section
variable {P:Program} {w:World} {H:Hp} {h h':Heap} {x e:Addr} {o':HO}
theorem HOk.write (ok:HOk P w H h) (mu:Mut (H x)) (he:e=x\/H e=some (.own x)) (k:∀b u,b≠e->h.get? b=some u->h'.get? b=some u) (heo:∃u,h'.get? e=some u)
  (new:BV P w (upd H x o') h' x o'):HOk P w (upd H x o') h':=fun b u q=>by
 have nown:∀c y,H c=some (.own y)->c≠x:=fun c y r z=>by subst z;rw[r]at mu;exact mu
 have ntup:∀c xs,H c=some (.tup xs)->c≠x:=fun c xs r z=>by subst z;rw[r]at mu;exact mu
 by_cases hb:b=x
 ·subst hb;rw[A4]at q;cases q;exact new
 ·rw[A8 hb]at q
  by_cases hbe:b=e
  ·have q':H b=some (.own x):=by
    rcases he with z|z
    ·exact absurd (hbe.trans z) hb
    ·rw[hbe];exact z
   rw[q]at q';cases q'
   obtain ⟨v,hv⟩:=heo
   exact ⟨v,by rw[hbe];exact hv⟩
  ·refine (ok b u q).stay (fun c v hc r=>k c v ?_ r) (fun c r=>by rw[A8 (nown c b r)];exact r) fun c xs r=>by rw[A8 (ntup c xs r)];exact r
   rcases hc with rfl|hc
   ·exact hbe
   ·rintro rfl
    rcases he with z|z
    ·exact nown c b hc z
    ·rw[hc]at z;cases z;exact hb rfl
end
structure Un (fs ex:List Addr) (H H':Hp) (h h':Heap):Prop where
 keep:∀b o,h.get? b=some o->H b=none->b∉fs->b∉ex->h'.get? b=some o
 slot:∀b o,h.get? b=some o->H b=none->b∈fs->b∉ex->∃sl,h'.get? b=some {o with slots:=sl}
 free:∀b o,h.get? b=some o->H b=none->b∉ex->H' b=none
 there:∀b o,h.get? b=some o->b∉ex->∃o',h'.get? b=some o'
 tups:∀b xs,H b=some (.tup xs)->H' b=some (.tup xs)
 frzs:∀b o u,H b=some (.frz o u)->H' b=some (.frz o u)
 tbls:∀b ps,H b=some (.tbl ps)->∃more,H' b=some (.tbl (ps++more))
section
variable {fs fs' ex ex':List Addr} {H H1 H2:Hp} {h h1 h2 h':Heap} {a x e:Addr} {o:HO}
theorem Un.any (u:Un fs ex H H1 h h1) {b:Addr} {ob:Obj} (q:h.get? b=some ob) (n:H b=none) (hx:b∉ex):∃sl,h1.get? b=some {ob with slots:=sl}:=by
 by_cases hb:b∈fs
 ·exact u.slot b ob q n hb hx
 ·exact ⟨ob.slots,u.keep b ob q n hb hx⟩
theorem Un.kept (k:∀b u,h.get? b=some u->h'.get? b=some u):Un fs ex H H h h':=
 ⟨fun b ob q _ _ _=>k b ob q,fun b ob q _ _ _=>⟨ob.slots,k b ob q⟩,fun _ _ _ n _=>n,fun b ob q _=>⟨ob,k b ob q⟩,fun _ _ q=>q,fun _ _ _ q=>q,fun _ ps q=>⟨#[],by rw[q];simp⟩⟩
theorem Un.refl:Un fs ex H H h h:=Un.kept fun _ _ q=>q
theorem Un.laid (k:∀b u,h.get? b=some u->h'.get? b=some u) (hp:h.objs.size<=a) (hn:H a=none):Un fs ex H (upd H a o) h h' where
 keep:=fun b u q _ _ _=>k b u q
 slot:=fun b u q _ _ _=>⟨u.slots,k b u q⟩
 free:=fun b u q n _=>by rw[A8 (Nat.ne_of_lt (Nat.lt_of_lt_of_le (Heap.lt_size q) hp))];exact n
 there:=fun b u q _=>⟨u,k b u q⟩
 tups:=fun b xs q=>by rw[A8 (AV q hn)];exact q
 frzs:=fun b u xs q=>by rw[A8 (AV q hn)];exact q
 tbls:=fun b ps q=>⟨#[],by rw[A8 (AV q hn),q];simp⟩
theorem Un.write (mu:Mut (H x)) (he:e=x\/H e=some (.own x)) (k:∀b u,b≠e->h.get? b=some u->h'.get? b=some u) (heo:∃u,h'.get? e=some u):Un fs ex H (upd H x o) h h':=by
 have hx:∀b,H b=none->b≠x:=fun b n z=>by subst z;rw[n]at mu;exact mu
 have hb:∀b,H b=none->b≠e:=fun b n z=>by
  subst z
  rcases he with r|r
  ·exact hx b n r
  ·rw[n]at r;cases r
 have hm:∀b u,H b=some u->¬Mut (some u)->b≠x:=fun b u q nm z=>by subst z;rw[q]at mu;exact nm mu
 refine ⟨fun b u q n _ _=>k b u (hb b n) q,fun b u q n _ _=>⟨u.slots,k b u (hb b n) q⟩,fun b u q n _=>by rw[A8 (hx b n)];exact n,fun b u q _=>?_,
  fun b xs q=>by rw[A8 (hm b _ q fun z=>z)];exact q,fun b u xs q=>by rw[A8 (hm b _ q fun z=>z)];exact q,fun b ps q=>⟨#[],by rw[A8 (hm b _ q fun z=>z),q];simp⟩⟩
 by_cases hbe:b=e
 ·subst hbe;exact heo
 ·exact ⟨u,k b u hbe q⟩
end
def trk (h:Heap) (H:Hp):List Addr:=(List.range h.objs.size).filter fun a=>(H a).isSome
def KU (h:Heap) (H:Hp):Heap:=PySem.W.hideAll h (trk h H)
theorem VP (h:Heap) (H:Hp):(KU h H).objs.size=h.objs.size:=PySem.W.hideAll_size _ _
theorem Wh {h:Heap} {H:Hp} {b:Addr} {o:Obj} (e:h.get? b=some o) (n:H b=none):(KU h H).get? b=some o:=
 PySem.W.hideAll_get _ e fun hm=>by
  have q:(H b).isSome=true:=(List.mem_filter.mp hm).2
  rw[n]at q;simp at q
theorem XO {h:Heap} {H:Hp} {b:Addr} {o:Obj} (e:(KU h H).get? b=some o):h.get? b=some o/\H b=none:=by
 have e':h.get? b=some o:=PySem.W.of_hideAll (trk h H) e
 refine ⟨e',?_⟩
 cases q:H b with
 |none=>rfl
 |some x=>
  have hm:b∈trk h H:=List.mem_filter.mpr ⟨List.mem_range.mpr (Heap.lt_size e'),by simp[q]⟩
  have z:(KU h H).get? b=none:=PySem.W.hideAll_none (trk h H) hm
  rw[z]at e;cases e
def XE (g h:Heap) (L:Addr):List (Addr×Obj):=(List.range h.objs.size).filterMap fun a=>if a=L\/(g.get? a).isSome=true then none else (h.get? a).map fun o=>(a,o)
def Ax (g h:Heap) (L d:Addr):List (Addr×Obj):=(XE g h L).filter fun p=>decide (p.1≠d)
end L2
namespace L2
open PySem PySem.Spec PyProof.Rows
structure Mod (K:PySem.W.Frag) (mg:Str->Option Value) (base:Heap):Prop where
 kin:K.In base
 glob:base.Ns mainGlobals mg
 blt:∃mb,base.Ns builtinsNs mb/\∀x:Str,x≠"__name__"->mb x=bootBuiltins x
 nolimit:base.NoLimit
structure Cx where
 prog:Program
 w:World
 K:PySem.W.Frag
 mg:Str->Option Value
 base:Heap
 A:Around
 N:List Str
 s_0:Shared
 H_0:Hp
 env:Env
 outer:List Env
 stack:List Env
 ex:List Addr
 fn:Str->Bool
 calm:Bool
 pn:List (Addr×Obj)
 xe:Value->Shared->Prop
def frs (l:List Env):List Addr:=l.filterMap (·.frame)
abbrev Cx.fs (X:Cx):List Addr:=frs X.outer
def Vis (sc:Scope) (x:Str):Prop:=sc.names.lookup x=some .local\/sc.names.lookup x=some .cell\/sc.names.lookup x=some .free
def Loc (sc:Scope) (x:Str):Prop:=sc.names.lookup x=some .local\/sc.names.lookup x=some .cell
def Look (env:Env) (h:Heap) (m:Str->Option Value) (x:Str) (u:Value):Prop:=
 (env.kindOf x=some .local/\m x=some u)\/((env.kindOf x=some .cell\/env.kindOf x=some .free)/\∃c,env.cells.lookup x=some c/\h.IsCell c (some u))
structure Cx.Ok (X:Cx):Prop where
 mod:Mod X.K X.mg X.base
 kind:X.env.scope.kind=.function
 glob:X.env.globals=mainGlobals
 blt:X.env.builtins=builtinsNs
 above:X.s_0.heap.objs.size<=X.env.locals
 inj:∀x y c,X.env.cells.lookup x=some c->X.env.cells.lookup y=some c->x=y
 has:∀x,(X.env.kindOf x=some .cell\/X.env.kindOf x=some .free)->∃c,X.env.cells.lookup x=some c
 cab:∀x c,X.fn x=true->X.env.cells.lookup x=some c->X.s_0.heap.objs.size<=c
 hd:X.calm=true->X.A.handled=none
 frames:X.A.frames=some X.stack
 stk:X.stack=X.outer\/(X.stack=X.env::X.outer/\X.env.frame=some X.env.locals)
 exf:∀b∈X.ex,b≠X.env.locals/\∀x c,X.env.cells.lookup x=some c->c≠b
 bs:∀b o,X.base.get? b=some o->X.s_0.heap.get? b=some o/\X.H_0 b=none
 bsz:X.base.objs.size<=X.s_0.heap.objs.size
 noex:∀b o,X.base.get? b=some o->b∉X.ex
 exfs:∀b∈X.ex,b∉X.fs
 funs:X.s_0.heap.FunFrames X.base X.outer
 frf:∀b∈X.fs,X.H_0 b=none
structure Inv (X:Cx) (pins:List (Addr×Obj)) (σ:List (Option V)) (H:Hp) (s:Shared):Prop where
 ok:X.Ok
 os:s.os=X.s_0.os
 bare:AllBare s.gens
 base:Un X.fs X.ex X.H_0 H X.s_0.heap s.heap
 loc:∃m,s.heap.Ns X.env.locals m/\∀(i:Nat) (x:Str) (v:V),X.N[i]?=some x->σ[i]?=some (some v)->Vis X.env.scope x->∃u,RelV v u/\Look X.env s.heap m x u
 cell:∀x c,X.env.cells.lookup x=some c->∃v,s.heap.IsCell c v
 free:H X.env.locals=none
 freeC:∀x c,X.env.cells.lookup x=some c->H c=none
 pin:∀p∈X.pn++pins,s.heap.get? p.1=some p.2/\H p.1=none/\p.1≠X.env.locals/\p.1∉X.fs/\∀v,p.2.data≠.cell v
 hok:HOk X.prog X.w H s.heap
 len:σ.length=X.N.length
section
variable {X:Cx} {pins:List (Addr×Obj)} {σ:List (Option V)} {H H':Hp} {s:Shared} {h':Heap}
theorem Cx.Ok.nofr (ok:X.Ok) {b:Addr} {o:Obj} (e:X.base.get? b=some o):b∉X.fs:=fun hb=>by
 have:=(ok.funs.mem hb).1
 rw[e]at this;cases this
theorem Inv.bs (I:Inv X pins σ H s):∀b o,X.base.get? b=some o->s.heap.get? b=some o/\H b=none:=fun b o e=>
 ⟨I.base.keep b o (I.ok.bs b o e).1 (I.ok.bs b o e).2 (I.ok.nofr e) (I.ok.noex b o e),I.base.free b o (I.ok.bs b o e).1 (I.ok.bs b o e).2 (I.ok.noex b o e)⟩
theorem Inv.bk (I:Inv X pins σ H s):∀b o,X.base.get? b=some o->s.heap.get? b=some o:=fun b o e=>(I.bs b o e).1
theorem Inv.mod (I:Inv X pins σ H s):Mod X.K X.mg X.base:=I.ok.mod
theorem Inv.kIn (I:Inv X pins σ H s):X.K.In s.heap:=I.ok.mod.kin.keeps I.bk
theorem Inv.fr (I:Inv X pins σ H s):∃m,Fr X.base X.env.locals s.heap m:=
 let ⟨m,hn,_⟩:=I.loc
 ⟨m,hn,I.bk,Nat.le_trans I.ok.bsz I.ok.above⟩
theorem Inv.lt (I:Inv X pins σ H s):X.env.locals<s.heap.objs.size:=let ⟨_,hn,_⟩:=I.loc;hn.lt
theorem Inv.sz (I:Inv X pins σ H s):X.s_0.heap.objs.size<=s.heap.objs.size:=Nat.le_trans I.ok.above (Nat.le_of_lt I.lt)
theorem Inv.nofs (I:Inv X pins σ H s) {a:Addr} (h:s.heap.objs.size<=a):a∉X.fs:=fun hb=>by
 obtain ⟨_,o,ho,_⟩:=I.ok.funs.mem hb
 exact absurd (Nat.lt_of_lt_of_le (Heap.lt_size ho) (Nat.le_trans I.sz h)) (Nat.lt_irrefl _)
theorem Inv.cne (I:Inv X pins σ H s):∀x c,X.env.cells.lookup x=some c->c≠X.env.locals:=fun x c e z=>by
 obtain ⟨v,o,ho,hd⟩:=I.cell x c e
 obtain ⟨m,⟨o',es,ep,ho',hd',_⟩,_⟩:=I.loc
 rw[z,ho']at ho;cases ho;rw[hd']at hd;cases hd
theorem Inv.funs (I:Inv X pins σ H s):s.heap.FunFrames X.base X.outer:=by
 have all:∀(l:List Env),(∀b∈frs l,b∈X.fs)->X.s_0.heap.FunFrames X.base l->s.heap.FunFrames X.base l:=by
  intro l
  induction l with
  |nil=>intro _ _;trivial
  |cons env r ih=>
   intro hs hl
   obtain ⟨hk,⟨L,o,hf,hn,ho,hd⟩,hr⟩:=hl
   have hL:L∈X.fs:=hs L (by unfold frs;rw[List.filterMap_cons,hf];exact List.mem_cons_self)
   obtain ⟨sl,e⟩:=I.base.slot L o ho (I.ok.frf L hL) hL fun z=>I.ok.exfs L z hL
   exact ⟨hk,⟨L,_,hf,hn,e,hd⟩,ih (fun b hb=>hs b (by unfold frs;rw[List.filterMap_cons,hf];exact List.mem_cons_of_mem _ hb)) hr⟩
 exact all X.outer (fun _ hb=>hb) I.ok.funs
theorem Inv.stack (I:Inv X pins σ H s):s.heap.FunFrames X.base X.stack:=by
 rcases I.ok.stk with e|⟨e,hf⟩
 ·rw[e];exact I.funs
 ·rw[e]
  obtain ⟨m,hn,_⟩:=I.loc
  refine .cons (by rw[I.ok.kind];decide) hf hn ?_ I.funs
  exact Heap.get?_none_of_le (Nat.le_trans I.ok.bsz I.ok.above)
theorem Inv.stkSub (I:Inv X pins σ H s):∀b∈frs X.stack,b∈X.env.locals::X.fs:=fun b hb=>by
 rcases I.ok.stk with e|⟨e,hf⟩
 ·rw[e]at hb;exact List.mem_cons_of_mem _ hb
 ·rw[e]at hb
  unfold frs at hb
  rw[List.filterMap_cons,hf]at hb
  exact hb
theorem Inv.stkFree (I:Inv X pins σ H s):∀b∈frs X.stack,H b=none:=fun b hb=>by
 rcases List.mem_cons.mp (I.stkSub b hb) with e|hb
 ·rw[e];exact I.free
 ·obtain ⟨_,o,ho,_⟩:=I.ok.funs.mem hb
  exact I.base.free b o ho (I.ok.frf b hb) fun z=>I.ok.exfs b z hb
theorem Inv.step {g':Array GenState} {t':Nat} {d':Drawn} {ch:List Addr} (I:Inv X pins σ H s)
  (hch:∀b∈ch,(b∈X.ex\/X.s_0.heap.objs.size<=b)/\b≠X.env.locals/\(∀x c,X.env.cells.lookup x=some c->c≠b)/\∀p∈X.pn++pins,p.1≠b)
  (keep:∀b o,b≠X.env.locals->b∉X.fs->b∉ch->s.heap.get? b=some o->H b=none->h'.get? b=some o)
  (slot:∀b o,b≠X.env.locals->b∈X.fs->b∉ch->s.heap.get? b=some o->H b=none->∃sl,h'.get? b=some {o with slots:=sl}) (free:∀b o,b∉ch->s.heap.get? b=some o->H b=none->H' b=none)
  (there:∀b o,b∉ch->s.heap.get? b=some o->∃o',h'.get? b=some o')
  (tups:∀b xs,H b=some (.tup xs)->H' b=some (.tup xs)) (frzs:∀b o u,H b=some (.frz o u)->H' b=some (.frz o u)) (tbls:∀b ps,H b=some (.tbl ps)->∃more,H' b=some (.tbl (ps++more)))
  (ns:∀m,s.heap.Ns X.env.locals m->h'.Ns X.env.locals m) (hok:HOk X.prog X.w H' h') (hg:AllBare g'):
  Inv X pins σ H' {s with heap:=h',gens:=g',drawn:=d',toks:=t'}:=by
 have neL:∀b o,X.s_0.heap.get? b=some o->b≠X.env.locals:=fun b o e=>Nat.ne_of_lt (Nat.lt_of_lt_of_le (Heap.lt_size e) I.ok.above)
 have neC:∀b o,X.s_0.heap.get? b=some o->b∉X.ex->b∉ch:=fun b o e hx hb=>by
  rcases (hch b hb).1 with z|z
  ·exact hx z
  ·exact absurd (Nat.lt_of_lt_of_le (Heap.lt_size e) z) (Nat.lt_irrefl _)
 have cellK:∀x c,X.env.cells.lookup x=some c->∀v,s.heap.IsCell c v->h'.IsCell c v:=fun x c e v ⟨o,ho,hd⟩=>by
  have nch:c∉ch:=fun z=>(hch c z).2.2.1 x c e rfl
  by_cases hc:c∈X.fs
  ·obtain ⟨sl,q⟩:=slot c o (I.cne x c e) hc nch ho (I.freeC x c e)
   exact ⟨_,q,hd⟩
  ·exact ⟨o,keep c o (I.cne x c e) hc nch ho (I.freeC x c e),hd⟩
 refine ⟨I.ok,I.os,hg,⟨fun b o e n hb hx=>?_,fun b o e n hb hx=>?_,fun b o e n hx=>?_,fun b o e hx=>?_,fun b xs e=>tups b xs (I.base.tups b xs e),fun b o xs e=>frzs b o xs (I.base.frzs b o xs e),fun b ps e=>?_⟩,?_,fun x c e=>?_,?_,fun x c e=>?_,fun p hp=>?_,hok,I.len⟩
 ·exact keep b o (neL b o e) hb (neC b o e hx) (I.base.keep b o e n hb hx) (I.base.free b o e n hx)
 ·obtain ⟨sl,e1⟩:=I.base.slot b o e n hb hx
  obtain ⟨sl',e2⟩:=slot b _ (neL b o e) hb (neC b o e hx) e1 (I.base.free b o e n hx)
  exact ⟨sl',e2⟩
 ·obtain ⟨o',e1⟩:=I.base.there b o e hx
  exact free b o' (neC b o e hx) e1 (I.base.free b o e n hx)
 ·obtain ⟨o',e1⟩:=I.base.there b o e hx
  exact there b o' (neC b o e hx) e1
 ·obtain ⟨m1,e1⟩:=I.base.tbls b ps e
  obtain ⟨m2,e2⟩:=tbls b _ e1
  exact ⟨m1++m2,by rw[e2,Array.append_assoc]⟩
 ·obtain ⟨m,hn,hl⟩:=I.loc
  refine ⟨m,ns m hn,fun i x v e1 e2 e3=>?_⟩
  obtain ⟨u,r,l⟩:=hl i x v e1 e2 e3
  refine ⟨u,r,?_⟩
  rcases l with l|⟨k,c,e,z⟩
  ·exact .inl l
  ·exact .inr ⟨k,c,e,cellK x c e _ z⟩
 ·obtain ⟨v,z⟩:=I.cell x c e
  exact ⟨v,cellK x c e v z⟩
 ·obtain ⟨m,⟨o,_,_,ho,_⟩,_⟩:=I.loc
  exact free _ o (fun z=>(hch _ z).2.1 rfl) ho I.free
 ·obtain ⟨v,o,ho,hd⟩:=I.cell x c e
  exact free c o (fun z=>(hch c z).2.2.1 x c e rfl) ho (I.freeC x c e)
 ·obtain ⟨e,n,ne,nf,d⟩:=I.pin p hp
  have nch:p.1∉ch:=fun z=>(hch p.1 z).2.2.2 p hp rfl
  exact ⟨keep p.1 p.2 ne nf nch e n,free p.1 p.2 nch e n,ne,nf,d⟩
theorem Inv.un {t':Nat} (I:Inv X pins σ H s) (u:Un X.fs [] H H' s.heap h') (hok:HOk X.prog X.w H' h'):Inv X pins σ H' {s with heap:=h',toks:=t'}:=by
 obtain ⟨m,⟨o,es,ep,ho,r⟩,_⟩:=id I.loc
 obtain ⟨sl,hL⟩:=u.any ho I.free (by simp)
 exact I.step (g':=s.gens) (d':=s.drawn) (ch:=[]) (fun _ z=>nomatch z) (fun b o _ hb _ e n=>u.keep b o e n hb (by simp)) (fun b o _ hb _ e n=>u.slot b o e n hb (by simp)) (fun b o _ e n=>u.free b o e n (by simp)) (fun b o _ e=>u.there b o e (by simp)) u.tups u.frzs u.tbls (fun m' hm=>by
  obtain ⟨o',es',ep',ho',r'⟩:=hm
  rw[ho]at ho';cases ho'
  exact ⟨_,es',ep',hL,r'⟩) hok I.bare
theorem Inv.call {g':Array GenState} {t':Nat} {d':Drawn} {ch:List Addr} (I:Inv X pins σ H s) (u:Un (frs X.stack) ch H H' s.heap h') (hok:HOk X.prog X.w H' h') (hg:AllBare g')
  (hch:∀b∈ch,(b∈X.ex\/X.s_0.heap.objs.size<=b)/\b≠X.env.locals/\(∀x c,X.env.cells.lookup x=some c->c≠b)/\∀p∈X.pn++pins,p.1≠b):
  Inv X pins σ H' {s with heap:=h',gens:=g',drawn:=d',toks:=t'}:=by
 obtain ⟨m,⟨o,es,ep,ho,r⟩,_⟩:=id I.loc
 obtain ⟨sl,hL⟩:=u.any ho I.free fun z=>(hch _ z).2.1 rfl
 exact I.step (ch:=ch) hch (fun b o hL hb hc e n=>u.keep b o e n (fun z=>(List.mem_cons.mp (I.stkSub b z)).elim hL hb) hc) (fun b o _ _ hc e n=>u.any e n hc) (fun b o hc e n=>u.free b o e n hc) (fun b o hc e=>u.there b o e hc) u.tups u.frzs u.tbls (fun m' hm=>by
  obtain ⟨o',es',ep',ho',r'⟩:=hm
  rw[ho]at ho';cases ho'
  exact ⟨_,es',ep',hL,r'⟩) hok hg
theorem Inv.turned {t':Nat} {it:Addr} (I:Inv X pins σ H s) (k:∀b o,b≠it->s.heap.get? b=some o->h'.get? b=some o) (hn:H it=none) (hL:it≠X.env.locals)
  (h1:it∈X.ex\/X.s_0.heap.objs.size<=it) (h2:∀x c,X.env.cells.lookup x=some c->c≠it) (h3:∀p∈X.pn++pins,p.1≠it):Inv X pins σ H {s with heap:=h',toks:=t'}:=by
 have nit:∀b u,H b=some u->b≠it:=fun b u e z=>by rw[z,hn]at e;cases e
 refine I.step (g':=s.gens) (d':=s.drawn) (ch:=[it]) (fun b hb=>?_) (fun b o _ _ hc e _=>k b o (fun z=>hc (by simp[z])) e) (fun b o _ _ hc e _=>⟨o.slots,k b o (fun z=>hc (by simp[z])) e⟩) (fun _ _ _ _ n=>n)
  (fun b o hc e=>⟨o,k b o (fun z=>hc (by simp[z])) e⟩) (fun _ _ e=>e) (fun _ _ _ e=>e) (fun b ps e=>⟨#[],by rw[e];simp⟩) (fun m hm=>?_) (fun b u e=>?_) I.bare
 ·have e:b=it:=by simpa using hb
  subst e
  exact ⟨h1,hL,h2,h3⟩
 ·obtain ⟨o,es,ep,ho,r⟩:=hm
  exact ⟨o,es,ep,k _ o (Ne.symm hL) ho,r⟩
 ·refine (I.hok b u e).stay (fun c v hc q=>k c v ?_ q) (fun _ q=>q) fun _ _ q=>q
  rcases hc with z|z
  ·rw[z];exact nit b u e
  ·exact nit c _ z
theorem Inv.tok (I:Inv X pins σ H s) (t:Nat):Inv X pins σ H {s with toks:=t}:=I.un (h':=s.heap) (t':=t) Un.refl I.hok
theorem Inv.kept {t':Nat} (I:Inv X pins σ H s) (k:∀b u,s.heap.get? b=some u->h'.get? b=some u):Inv X pins σ H {s with heap:=h',toks:=t'}:=I.un (Un.kept k) (I.hok.kept k)
theorem Inv.laid {a:Addr} {o:HO} {t':Nat} (I:Inv X pins σ H s) (k:∀b u,s.heap.get? b=some u->h'.get? b=some u) (hp:s.heap.objs.size<=a) (new:BV X.prog X.w (upd H a o) h' a o):
  Inv X pins σ (upd H a o) {s with heap:=h',toks:=t'}:=I.un (Un.laid k hp (I.hok.fresh hp)) (I.hok.laid k hp new)
theorem Inv.write {x e:Addr} {o:HO} {t':Nat} (I:Inv X pins σ H s) (mu:Mut (H x)) (he:e=x\/H e=some (.own x)) (k:∀b u,b≠e->s.heap.get? b=some u->h'.get? b=some u) (heo:∃u,h'.get? e=some u)
  (new:BV X.prog X.w (upd H x o) h' x o):Inv X pins σ (upd H x o) {s with heap:=h',toks:=t'}:=I.un (Un.write mu he k heo) (I.hok.write mu he k heo new)
theorem Inv.weak {σ':List (Option V)} (I:Inv X pins σ H s) (hl:σ'.length=σ.length) (w:∀(i:Nat) v,σ'[i]?=some (some v)->σ[i]?=some (some v)):Inv X pins σ' H s:=
 ⟨I.ok,I.os,I.bare,I.base,let ⟨m,hn,hl'⟩:=I.loc;⟨m,hn,fun i x v e1 e2 e3=>hl' i x v e1 (w i v e2) e3⟩,I.cell,I.free,I.freeC,I.pin,I.hok,hl.trans I.len⟩
theorem Inv.pins_of {pins':List (Addr×Obj)} (I:Inv X pins σ H s) (h:∀p∈pins',s.heap.get? p.1=some p.2/\H p.1=none/\p.1≠X.env.locals/\p.1∉X.fs/\∀v,p.2.data≠.cell v):Inv X pins' σ H s:=
 ⟨I.ok,I.os,I.bare,I.base,I.loc,I.cell,I.free,I.freeC,fun p hp=>(List.mem_append.mp hp).elim (fun z=>I.pin p (List.mem_append_left _ z)) (h p),I.hok,I.len⟩
theorem NN {N:List Str} (hN:N.Nodup) {i j:Nat} {x:Str} (a:N[i]?=some x) (b:N[j]?=some x):i=j:=by
 obtain ⟨h1,e1⟩:=List.getElem?_eq_some_iff.mp a
 obtain ⟨h2,e2⟩:=List.getElem?_eq_some_iff.mp b
 exact (List.getElem_inj hN).mp (e1.trans e2.symm)
theorem QB {M:Model} {A:Around} {E:Value->Shared->Prop} {i:Nat} {x:Str} {v:V} {u:Value} {Q:Unit->Shared->Prop} (I:Inv X pins σ H s) (hN:X.N.Nodup) (hi:X.N[i]?=some x) (hx:Loc X.env.scope x) (r:RelV v u)
  (h:∀s',Inv X pins (σ.set i (some v)) H s'->(∃a,Heap.SameBut a s.heap s'.heap/\(a=X.env.locals\/X.env.cells.lookup x=some a))->Q () s') (hf:X.fn x=true\/X.env.scope.names.lookup x=some .local:=by first|exact .inl rfl|exact .inr rfl|assumption):wpAny M A (storeName X.env x u) Q E s:=by
 obtain ⟨m,hn,hl⟩:=id I.loc
 have hcls:(X.env.scope.kind==.class||(X.env.scope.kind==.module&&X.env.locals !=X.env.globals))=false:=by rw[I.ok.kind];rfl
 have hiσ:i<σ.length:=by rw[I.len];exact (List.getElem?_eq_some_iff.mp hi).1
 have cne:=I.cne
 have tracked:∀{a:Addr} {h':Heap},(∃o,s.heap.get? a=some o/\H a=none)->Heap.SameBut a s.heap h'->HOk X.prog X.w H h':=fun {a h'} ha hs b ob e=>by
  obtain ⟨_,_,hfree⟩:=ha
  refine (I.hok b ob e).stay (fun c w' hc q=>(hs.2 c ?_).trans q) (fun _ q=>q) fun _ _ q=>q
  rintro rfl
  rcases hc with rfl|hc
  ·rw[hfree]at e;cases e
  ·rw[hfree]at hc;cases hc
 rcases hx with hk|hk
 ·refine wpAny_storeName_local hk hn (fun h' hn' hs=>?_) hcls
  obtain ⟨oL,_,_,hoL,_⟩:=id hn
  refine h _ ⟨I.ok,I.os,I.bare,⟨fun b o e n hb hx=>?_,fun b o e n hb hx=>?_,I.base.free,fun b o e hx=>?_,I.base.tups,I.base.frzs,I.base.tbls⟩,⟨_,hn',fun j y v' e1 e2 e3=>?_⟩,fun y c e=>?_,I.free,I.freeC,fun p hp=>?_,tracked ⟨oL,hoL,I.free⟩ hs,by simpa using I.len⟩ ⟨_,hs,.inl rfl⟩
  ·exact (hs.2 b (Nat.ne_of_lt (Nat.lt_of_lt_of_le (Heap.lt_size e) I.ok.above))).trans (I.base.keep b o e n hb hx)
  ·obtain ⟨sl,e1⟩:=I.base.slot b o e n hb hx
   exact ⟨sl,(hs.2 b (Nat.ne_of_lt (Nat.lt_of_lt_of_le (Heap.lt_size e) I.ok.above))).trans e1⟩
  ·obtain ⟨o',e1⟩:=I.base.there b o e hx
   exact ⟨o',(hs.2 b (Nat.ne_of_lt (Nat.lt_of_lt_of_le (Heap.lt_size e) I.ok.above))).trans e1⟩
  ·by_cases hj:j=i
   ·subst hj
    rw[hi]at e1;cases e1
    rw[List.getElem?_set_self hiσ]at e2
    cases e2
    exact ⟨u,r,.inl ⟨hk,by simp⟩⟩
   ·rw[List.getElem?_set_ne (Ne.symm hj)]at e2
    obtain ⟨u',r',q⟩:=hl j y v' e1 e2 e3
    refine ⟨u',r',?_⟩
    rcases q with ⟨k,e⟩|⟨k,c,e,z⟩
    ·refine .inl ⟨k,?_⟩
     have:y≠x:=fun e=>hj (NN hN e1 (e▸hi))
     simp[this,e]
    ·exact .inr ⟨k,c,e,z.sameBut hs (cne y c e)⟩
  ·obtain ⟨w',z⟩:=I.cell y c e
   exact ⟨w',z.sameBut hs (cne y c e)⟩
  ·obtain ⟨e,n,ne,nf,d⟩:=I.pin p hp
   exact ⟨(hs.2 p.1 ne).trans e,n,ne,nf,d⟩
 ·have hfn:X.fn x=true:=by
   rcases hf with z|z
   ·exact z
   ·rw[z]at hk;cases hk
  obtain ⟨c,hc⟩:=I.ok.has x (.inl hk)
  obtain ⟨w',z⟩:=I.cell x c hc
  refine wpAny_storeName_cell I.ok.kind hk hc z (fun h' hc' hs=>?_)
  obtain ⟨oc,hoc,hocd⟩:=id z
  refine h {s with heap:=h'} ⟨I.ok,I.os,I.bare,⟨fun b o e n hb hx=>?_,fun b o e n hb hx=>?_,I.base.free,fun b o e hx=>?_,I.base.tups,I.base.frzs,I.base.tbls⟩,⟨m,hn.sameBut hs (Ne.symm (cne x c hc)),fun j y v' e1 e2 e3=>?_⟩,fun y c' e=>?_,I.free,I.freeC,fun p hp=>?_,tracked ⟨oc,hoc,I.freeC x c hc⟩ hs,by simpa using I.len⟩ ⟨c,hs,.inr hc⟩
  ·exact (hs.2 b (Nat.ne_of_lt (Nat.lt_of_lt_of_le (Heap.lt_size e) (I.ok.cab x c hfn hc)))).trans (I.base.keep b o e n hb hx)
  ·obtain ⟨sl,e1⟩:=I.base.slot b o e n hb hx
   exact ⟨sl,(hs.2 b (Nat.ne_of_lt (Nat.lt_of_lt_of_le (Heap.lt_size e) (I.ok.cab x c hfn hc)))).trans e1⟩
  ·obtain ⟨o',e1⟩:=I.base.there b o e hx
   exact ⟨o',(hs.2 b (Nat.ne_of_lt (Nat.lt_of_lt_of_le (Heap.lt_size e) (I.ok.cab x c hfn hc)))).trans e1⟩
  ·by_cases hj:j=i
   ·subst hj
    rw[hi]at e1;cases e1
    rw[List.getElem?_set_self hiσ]at e2
    cases e2
    exact ⟨u,r,.inr ⟨.inl hk,c,hc,hc'⟩⟩
   ·rw[List.getElem?_set_ne (Ne.symm hj)]at e2
    obtain ⟨u',r',q⟩:=hl j y v' e1 e2 e3
    refine ⟨u',r',?_⟩
    rcases q with q|⟨k,c',e,z'⟩
    ·exact .inl q
    ·refine .inr ⟨k,c',e,z'.sameBut hs ?_⟩
     rintro rfl
     exact hj (NN hN e1 (I.ok.inj _ _ _ e hc▸hi))
  ·by_cases hcc:c'=c
   ·subst hcc;exact ⟨_,hc'⟩
   ·obtain ⟨w2,z2⟩:=I.cell y c' e
    exact ⟨w2,z2.sameBut hs hcc⟩
  ·obtain ⟨e,n,ne,nf,d⟩:=I.pin p hp
   refine ⟨(hs.2 p.1 ?_).trans e,n,ne,nf,d⟩
   intro q
   rw[q,hoc]at e
   have q':oc=p.2:=Option.some.inj e
   exact d w' (by rw[<-q'];exact hocd)
theorem S6 {M:Model} {A:Around} {E:Value->Shared->Prop} {i:Nat} {x:Str} {v:V} {u:Value} {Q:Unit->Shared->Prop} (I:Inv X pins σ H s) (hN:X.N.Nodup) (hi:X.N[i]?=some x) (hx:Loc X.env.scope x) (r:RelV v u)
  (h:∀s',Inv X pins (σ.set i (some v)) H s'->Q () s') (hf:X.fn x=true\/X.env.scope.names.lookup x=some .local:=by first|exact .inl rfl|exact .inr rfl|assumption):wpAny M A (storeName X.env x u) Q E s:=
 QB I hN hi hx r (fun s' I' _=>h s' I') hf
theorem Inv.call' {s':Shared} {ch:List Addr} (I:Inv X pins σ H s) (ho:s'.os=s.os) (u:Un (frs X.stack) ch H H' s.heap s'.heap) (hok:HOk X.prog X.w H' s'.heap) (hg:AllBare s'.gens)
  (hch:∀b∈ch,(b∈X.ex\/X.s_0.heap.objs.size<=b)/\b≠X.env.locals/\(∀x c,X.env.cells.lookup x=some c->c≠b)/\∀p∈X.pn++pins,p.1≠b):Inv X pins σ H' s':=by
 obtain ⟨h',g',d',t',o'⟩:=s'
 have e:o'=s.os:=ho
 subst e
 exact I.call (g':=g') (t':=t') (d':=d') u hok hg hch
end
abbrev XK:=Value->Option Addr->Hp->Prop
abbrev St:=List (Option V)
abbrev VK:=V->Hp->Prop
abbrev TE:=St->Hp->VK->Prop
abbrev TT:=St->Hp->(Bool->Hp->Prop)->Prop
abbrev TA:=St->Hp->(List V->Hp->Prop)->Prop
structure JW where
 nx:St->Hp->Prop
 rt:VK
 bk:St->Hp->Prop:=fun _ _=>False
 ct:St->Hp->Prop:=fun _ _=>False
abbrev TS:=JW->St->Hp->Prop
def EP (X:Cx) (pins:List (Addr×Obj)) (σ:St) (Q:VK) (u:Value) (s':Shared):Prop:=∃v H',Inv X pins σ H' s'/\RelV v u/\Q v H'
def TP (X:Cx) (pins:List (Addr×Obj)) (σ:St) (Q:Bool->Hp->Prop) (b:Bool) (s':Shared):Prop:=∃H',Inv X pins σ H' s'/\Q b H'
def AP (X:Cx) (pins:List (Addr×Obj)) (σ:St) (Q:List V->Hp->Prop) (us:List Value) (s':Shared):Prop:=∃vs H',Inv X pins σ H' s'/\AS vs us/\Q vs H'
def SP (X:Cx) (pins:List (Addr×Obj)) (D:JW) (f:Flow) (s':Shared):Prop:=
 match f with
 |.next=>∃σ' H',Inv X pins σ' H' s'/\D.nx σ' H'
 |.brk=>∃σ' H',Inv X pins σ' H' s'/\D.bk σ' H'
 |.cont=>∃σ' H',Inv X pins σ' H' s'/\D.ct σ' H'
 |.ret u=>∃v σ' H',Inv X pins σ' H' s'/\RelV v u/\D.rt v H'
def PE (X:Cx) (e:Expr) (t:TE):Prop:=
 ∀(pins:List (Addr×Obj)) (s:Shared) (σ:St) (H:Hp) (Q:VK),Inv X pins σ H s->t σ H Q->wpAny (model X.prog X.w) X.A (eval e X.env) (EP X pins σ Q) X.xe s
def PT (X:Cx) (e:Expr) (t:TT):Prop:=
 ∀(pins:List (Addr×Obj)) (s:Shared) (σ:St) (H:Hp) (Q:Bool->Hp->Prop),Inv X pins σ H s->t σ H Q->wpAny (model X.prog X.w) X.A (isTrue e X.env (eval e X.env)) (TP X pins σ Q) X.xe s
def PW (X:Cx) (e:Expr) (t:TT):Prop:=
 ∀(whole:Sem Value) (pins:List (Addr×Obj)) (s:Shared) (σ:St) (H:Hp) (Q:Bool->Hp->Prop),Inv X pins σ H s->t σ H Q->wpAny (model X.prog X.w) X.A (isTrue e X.env whole) (TP X pins σ Q) X.xe s
theorem PW.pt {X:Cx} {e:Expr} {t:TT} (h:PW X e t):PT X e t:=h _
def PA (X:Cx) (es:List Expr) (t:TA):Prop:=
 ∀(pos:Pos) (pins:List (Addr×Obj)) (s:Shared) (σ:St) (H:Hp) (Q:List V->Hp->Prop),Inv X pins σ H s->t σ H Q->wpAny (model X.prog X.w) X.A (spliced (backTo pos (starEach es X.env))) (AP X pins σ Q) X.xe s
def PS (X:Cx) (st:Stmt) (t:TS):Prop:=
 ∀(pins:List (Addr×Obj)) (s:Shared) (σ:St) (H:Hp) (D:JW),Inv X pins σ H s->t D σ H->wpAny (model X.prog X.w) X.A (exec st X.env) (SP X pins D) X.xe s
def PSs (X:Cx) (st:List Stmt) (t:TS):Prop:=
 ∀(pins:List (Addr×Obj)) (s:Shared) (σ:St) (H:Hp) (D:JW),Inv X pins σ H s->t D σ H->wpAny (model X.prog X.w) X.A (execs st X.env) (SP X pins D) X.xe s
theorem thn {α:Type} {t:Sem α} {Q Q':α->Shared->Prop} {M:Model} {A:Around} {E:Value->Shared->Prop} {s:Shared} (h:wpAny M A t Q E s) (hQ:∀a s,Q a s->Q' a s):wpAny M A t Q' E s:=wpAny_mono h hQ fun _ _ x=>x
end L2
namespace L2
open PySem PySem.Spec PyProof.Rows
section
variable {X:Cx}
theorem bin {a b:Expr} {ta tb:TE} (ha:PE X a ta) (hb:PE X b tb) {pins:List (Addr×Obj)} {s:Shared} {σ:St} {H:Hp} {R:V->V->Hp->Prop} (I:Inv X pins σ H s) (h:ta σ H fun x H1=>tb σ H1 fun y H2=>R x y H2)
  {α:Type} {Q:α->Shared->Prop} {f:Value->Value->Sem α}
  (hf:∀v u s2 x y H2,Inv X pins σ H2 s2->RelV x v->RelV y u->R x y H2->wpAny (model X.prog X.w) X.A (f v u) Q X.xe s2):
  wpAny (model X.prog X.w) X.A (eval a X.env) (fun v s₁=>wpAny (model X.prog X.w) X.A (eval b X.env) (fun u s₂=>wpAny (model X.prog X.w) X.A (f v u) Q X.xe s₂) X.xe s₁) X.xe s:=by
 refine thn (ha pins s σ H _ I h) fun v s1 ⟨x,H1,I1,r1,q1⟩=>?_
 refine thn (hb pins s1 σ H1 _ I1 q1) fun u s2 ⟨y,H2,I2,r2,q2⟩=>?_
 exact hf v u s2 x y H2 I2 r1 r2 q2
def Rp (i:Nat):TE:=fun σ H Q=>∃v,σ[i]?=some (some v)/\Q v H
def tC (v:V):TE:=fun _ H Q=>Q v H
theorem Y7 {i:Nat} {x:Str} {pos:Pos} (hN:X.N[i]?=some x) (hv:Vis X.env.scope x) (hd:(x==("__debug__":Str))=false:=by decide) (hcd:(x==("__classdict__":Str))=false:=by decide):PE X (.Name x pos) (Rp i):=by
 intro pins s σ H Q I h
 obtain ⟨v,e,h⟩:=h
 obtain ⟨m,hn,hl⟩:=I.loc
 obtain ⟨u,r,l⟩:=hl i x v hN e hv
 have fin:EP X pins σ Q u s:=⟨v,H,I,r,h⟩
 rcases l with ⟨hk,hm⟩|⟨hk,c,hc,hcell⟩
 ·exact wpAny_Name (wpAny_loadName_local I.ok.kind hk hn hm fin) hd
 ·rcases hk with hk|hk
  ·exact wpAny_Name (wpAny_loadName_cell I.ok.kind hk hc hcell fin) hd
  ·exact wpAny_Name (wpAny_loadName_free I.ok.kind hk hc hcell fin hcd) hd
theorem A9 {i j pos}:PE X (.Constant (.int i) j pos) (tC (.int i)):=fun _ _ _ H _ I h=>wpAny_Constant_int ⟨.int i,H,I.tok _,⟨_,rfl⟩,h⟩
theorem JA {b j pos}:PE X (.Constant (.bool b) j pos) (tC (.bl b)):=fun _ _ _ H _ I h=>Constant_bool ⟨.bl b,H,I,rfl,h⟩
theorem At {j pos}:PE X (.Constant .none j pos) (tC .non):=fun _ _ _ H _ I h=>Constant_none ⟨.non,H,I,rfl,h⟩
def Gl (X:Cx) (x:Str):Prop:=X.env.kindOf x=some .globalImplicit
theorem MD {E:Value->Shared->Prop} {pins:List (Addr×Obj)} {s:Shared} {σ:St} {H:Hp} {x:Str} {u:Value} {pos:Pos} {Q:Value->Shared->Prop} (I:Inv X pins σ H s) (hg:Gl X x) (hm:X.mg x=some u) (h:Q u s)
  (hd:(x==("__debug__":Str))=false:=by decide):wpAny (model X.prog X.w) X.A (eval (.Name x pos) X.env) Q E s:=
 Calls.Name_function_global I.ok.kind hg (Calls.loadGlobal_global (by rw[I.ok.glob];exact I.mod.glob.keeps I.bk) hm h) hd
theorem Ij {E:Value->Shared->Prop} {pins:List (Addr×Obj)} {s:Shared} {σ:St} {H:Hp} {x:Str} {u:Value} {pos:Pos} {Q:Value->Shared->Prop} (I:Inv X pins σ H s) (hg:Gl X x) (hm:X.mg x=none) (hv:bootBuiltins x=some u) (h:Q u s)
  (hn:x≠"__name__":=by decide) (hd:(x==("__debug__":Str))=false:=by decide):wpAny (model X.prog X.w) X.A (eval (.Name x pos) X.env) Q E s:=by
 obtain ⟨mb,h1,h2⟩:=I.mod.blt
 exact Calls.Name_function_global I.ok.kind hg (Calls.loadGlobal_builtin (by rw[I.ok.glob];exact I.mod.glob.keeps I.bk) hm (by rw[I.ok.blt];exact h1.keeps I.bk) ((h2 x hn).trans hv) h) hd
theorem X2 {x:Str} {v:V} {u:Value} {pos:Pos} (hg:Gl X x) (hm:X.mg x=some u) (r:RelV v u) (hd:(x==("__debug__":Str))=false:=by decide):PE X (.Name x pos) (tC v):=
 fun _ _ _ H _ I h=>MD I hg hm ⟨v,H,I,r,h⟩ hd
def t2I (ta tb:TE) (k:Int->Int->Hp->Prop):St->Hp->Prop:=fun σ H=>ta σ H fun x H1=>tb σ H1 fun y H2=>∃i j,x=.int i/\y=.int j/\k i j H2
variable {a b:Expr} {ta tb:TE} {pos:Pos}
def PC (X:Cx) (op:CmpOp) (a b:Expr) (t:TE):Prop:=
 ∀(pins:List (Addr×Obj)) (s:Shared) (σ:St) (H:Hp) (Q:VK),Inv X pins σ H s->t σ H Q->
  wpAny (model X.prog X.w) X.A (eval a X.env) (fun v s₁=>wpAny (model X.prog X.w) X.A (eval b X.env) (fun u s₂=>wpAny (model X.prog X.w) X.A (compareOp op v u) (EP X pins σ Q) X.xe s₂) X.xe s₁) X.xe s
theorem Ri (b:Expr) {op:CmpOp} (h:op≠.In) (h2:op≠.NotIn):behindInMarks op b=false:=by
 have e1:(op==CmpOp.In)=false:=by cases op<;>first|rfl|exact absurd rfl h
 have e2:(op==CmpOp.NotIn)=false:=by cases op<;>first|rfl|exact absurd rfl h2
 cases b<;>simp[behindInMarks,e1,e2]
def Pa (p:Int->Int->Bool) (ta tb:TE):TE:=fun σ H Q=>t2I ta tb (fun i j H2=>Q (.bl (p i j)) H2) σ H
abbrev UV:TE->TE->TE:=Pa fun i j=>decide (i=j)
abbrev Us:TE->TE->TE:=Pa fun i j=>!decide (i=j)
theorem VZ {op:CmpOp} {p:Int->Int->Bool} (ha:PE X a ta) (hb:PE X b tb)
  (rule:∀(i j:Int) (t u:Tok) (Q:Value->Shared->Prop) (s:Shared),Q (.bool (p i j)) s->wpAny (model X.prog X.w) X.A (compareOp op (.int i t) (.int j u)) Q X.xe s):PC X op a b (Pa p ta tb):=by
 intro pins s σ H Q I h
 refine bin ha hb I h fun v u s2 x y H2 I2 rx ry q=>?_
 obtain ⟨i,j,rfl,rfl,q⟩:=q
 obtain ⟨t,rfl⟩:=rx
 obtain ⟨t',rfl⟩:=ry
 exact rule i j t t' _ s2 ⟨.bl _,H2,I2,rfl,q⟩
theorem Ab (ha:PE X a ta) (hb:PE X b tb):PC X .Eq a b (UV ta tb):=VZ ha hb fun _ _ _ _ _ _ h=>eq_int (by rw[Bool.beq_eq_decide_eq];exact h)
theorem Lu (ha:PE X a ta) (hb:PE X b tb):PC X .NotEq a b (Us ta tb):=VZ ha hb fun _ _ _ _ _ _ h=>ne_int (by rw[bne,Bool.beq_eq_decide_eq];exact h)
def UM (ta:TE):TE:=fun σ H Q=>ta σ H fun x H1=>Q (.bl (decide (x=.non))) H1
def Qw (ta:TE):TE:=fun σ H Q=>ta σ H fun x H1=>Q (.bl (!decide (x=.non))) H1
theorem RelV.none_iff {x:V} {v:Value} (r:RelV x v):(v==Value.none)=decide (x=.non):=by
 cases x with
 |non=>cases r;rfl
 |bl _=>cases r;rfl
 |int _=>obtain ⟨t,rfl⟩:=r;rfl
 |str _=>obtain ⟨t,rfl⟩:=r;rfl
 |byt _=>obtain ⟨t,rfl⟩:=r;rfl
 |flt _=>obtain ⟨t,rfl⟩:=r;rfl
 |ref _=>cases r;rfl
 |ty _=>cases r;rfl
theorem C5 {j pos'} (ha:PE X a ta):PC X .Is a (.Constant .none j pos') (UM ta):=by
 intro pins s σ H Q I h
 refine thn (ha pins s σ H _ I h) fun v s1 ⟨x,H1,I1,r1,q1⟩=>?_
 exact Constant_none (is_none_gen ⟨.bl _,H1,I1,by rw[r1.none_iff];rfl,q1⟩)
theorem Di {j pos'} (ha:PE X a ta):PC X .IsNot a (.Constant .none j pos') (Qw ta):=by
 intro pins s σ H Q I h
 refine thn (ha pins s σ H _ I h) fun v s1 ⟨x,H1,I1,r1,q1⟩=>?_
 exact Constant_none (isnot_none_gen ⟨.bl _,H1,I1,by rw[r1.none_iff];rfl,q1⟩)
def tB (t:TE):TT:=fun σ H Q=>t σ H fun x H1=>∃c,x=.bl c/\Q c H1
theorem Jz {op:CmpOp} {t:TE} (h:PC X op a b t) (h1:behindInMarks op b=false:=by first|exact Ri _ (by decide) (by decide)|rfl):PE X (.Compare a [op] [b] pos) t:=fun pins s σ H Q I hw=>wpAny_Compare1 (h pins s σ H Q I hw) h1
theorem AG {op:CmpOp} {t:TE} (h:PC X op a b t) (h1:behindInMarks op b=false:=by first|exact Ri _ (by decide) (by decide)|rfl):PT X (.Compare a [op] [b] pos) (tB t):=by
 intro pins s σ H Q I hw
 refine wpAny_isTrue_Compare1 (thn (h pins s σ H _ I hw) fun v s1 h1=>thn h1 fun u s2 h2=>thn h2 fun c s3 ⟨x,H1,I1,r1,q1⟩=>?_) h1
 obtain ⟨d,rfl,q⟩:=q1
 cases r1
 exact wpAny_truthy_bool ⟨H1,I1,q⟩
theorem Bv {e:Expr} {t:TE} (h:PE X e t) (he:∀whole,isTrue e X.env whole=(do let v <-whole;standAt e.pos;holding [v] (truthy v)):=by intro _;rfl):PT X e (tB t):=by
 intro pins s σ H Q I hw
 refine isTrue_plain (thn (h pins s σ H _ I hw) fun v s1 ⟨x,H1,I1,r1,q1⟩=>?_) (he _)
 obtain ⟨d,rfl,q⟩:=q1
 cases r1
 exact wpAny_truthy_bool ⟨H1,I1,q⟩
variable {tA tB':TT} {Ax:List Expr}
def U0 (t u:TT):TT:=fun σ H Q=>t σ H fun c H1=>if c=true then u σ H1 Q else Q false H1
def tOr (t u:TT):TT:=fun σ H Q=>t σ H fun c H1=>if c=true then Q true H1 else u σ H1 Q
def UP (t:TT):TT:=fun σ H Q=>t σ H fun c H1=>Q (!c) H1
theorem Hw (ha:PT X a tA):PW X (.BoolOp .And [a] pos) tA:=by
 intro wh pins s σ H Q I h
 refine isTrue_and (thn (ha pins s σ H Q I h) fun c s1 e=>?_)
 cases c with
 |true=>exact isTrue_and_nil e
 |false=>exact e
theorem Cs (ha:PT X a tA):PW X (.BoolOp .Or [a] pos) tA:=by
 intro wh pins s σ H Q I h
 refine isTrue_or (thn (ha pins s σ H Q I h) fun c s1 e=>?_)
 cases c with
 |false=>exact isTrue_or_nil e
 |true=>exact e
theorem HG (ha:PT X a tA) (hb:PW X (.BoolOp .And (b::Ax) pos) tB'):PW X (.BoolOp .And (a::b::Ax) pos) (U0 tA tB'):=by
 intro wh pins s σ H Q I h
 refine isTrue_and (thn (ha pins s σ H _ I h) fun c s1 ⟨H1,I1,q1⟩=>?_)
 cases c with
 |true=>exact hb wh pins s1 σ H1 Q I1 q1
 |false=>exact ⟨H1,I1,q1⟩
theorem Ce (ha:PT X a tA) (hb:PW X (.BoolOp .Or (b::Ax) pos) tB'):PW X (.BoolOp .Or (a::b::Ax) pos) (tOr tA tB'):=by
 intro wh pins s σ H Q I h
 refine isTrue_or (thn (ha pins s σ H _ I h) fun c s1 ⟨H1,I1,q1⟩=>?_)
 cases c with
 |true=>exact ⟨H1,I1,q1⟩
 |false=>exact hb wh pins s1 σ H1 Q I1 q1
theorem Bd (ha:PT X a tA):PT X (.UnaryOp .Not a pos) (UP tA):=by
 intro pins s σ H Q I h
 exact isTrue_not (ha pins s σ H (fun c H1=>Q (!c) H1) I h)
def R3 (ta tb:TE):TE:=fun σ H Q=>ta σ H fun x H1=>∃c,x=.bl c/\if c=true then tb σ H1 Q else Q (.bl false) H1
def UK (ta tb:TE):TE:=fun σ H Q=>ta σ H fun x H1=>∃c,x=.bl c/\if c=true then Q (.bl true) H1 else tb σ H1 Q
def Ut (ta:TE):TE:=fun σ H Q=>ta σ H fun x H1=>∃c,x=.bl c/\Q (.bl (!c)) H1
theorem Vo {op} {t:TE} (h:PE X a t):PE X (.BoolOp op [a] pos) t:=fun pins s σ H Q I hw=>BoolOp_one (h pins s σ H Q I hw)
theorem YK (ha:PE X a ta) (hb:PE X (.BoolOp .And (b::Ax) pos) tb):PE X (.BoolOp .And (a::b::Ax) pos) (R3 ta tb):=by
 intro pins s σ H Q I h
 refine BoolOp_and (thn (ha pins s σ H _ I h) fun v s1 ⟨x,H1,I1,r1,q1⟩=>?_)
 obtain ⟨c,rfl,q1⟩:=q1
 cases r1
 refine wpAny_truthy_bool ?_
 cases c with
 |true=>exact hb pins s1 σ H1 Q I1 q1
 |false=>exact ⟨.bl false,H1,I1,rfl,q1⟩
theorem YW (ha:PE X a ta) (hb:PE X (.BoolOp .Or (b::Ax) pos) tb):PE X (.BoolOp .Or (a::b::Ax) pos) (UK ta tb):=by
 intro pins s σ H Q I h
 refine BoolOp_or (thn (ha pins s σ H _ I h) fun v s1 ⟨x,H1,I1,r1,q1⟩=>?_)
 obtain ⟨c,rfl,q1⟩:=q1
 cases r1
 refine wpAny_truthy_bool ?_
 cases c with
 |false=>exact hb pins s1 σ H1 Q I1 q1
 |true=>exact ⟨.bl true,H1,I1,rfl,q1⟩
def tIf (t:TT) (ta tb:TE):TE:=fun σ H Q=>t σ H fun c H1=>if c=true then ta σ H1 Q else tb σ H1 Q
theorem NQ {c:Expr} (hc:PT X c tA) (ha:PE X a ta) (hb:PE X b tb):PE X (.IfExp c a b pos) (tIf tA ta tb):=by
 intro pins s σ H Q I h
 refine wpAny_IfExp (thn (hc pins s σ H _ I h) fun d s1 ⟨H1,I1,q1⟩=>?_)
 cases d with
 |true=>exact ha pins s1 σ H1 Q I1 q1
 |false=>exact hb pins s1 σ H1 Q I1 q1
end
end L2
namespace L2
open PySem PySem.Spec PyProof.Rows
def SqL (K:PySem.W.Frag) (H:Hp) (a:Addr) (xs:List V):Prop:=
 Rd H a (.lst xs)\/
  ∃(o:Obj) (its:Array Value) (n:Nat),K.lookup a=some o/\o.cls=.type "list"/\o.dict=none/\o.data=.seq its n/\its.size<=sizeLine/\AS xs its.toList
def SqT (K:PySem.W.Frag) (H:Hp) (a:Addr) (xs:List V):Prop:=
 Rd H a (.tup xs)\/
  ∃(o:Obj) (its:Array Value) (n:Nat),K.lookup a=some o/\o.cls=.type "tuple"/\o.data=.seq its n/\its.size<=sizeLine/\AS xs its.toList
def Yn:Value->Option V
 |.none=>some .non
 |.bool b=>some (.bl b)
 |.int i _=>some (.int i)
 |.str x _=>some (.str x)
 |.bytes b _=>some (.byt b)
 |.float b _=>some (.flt b)
 |.ref a=>some (.ref a)
 |.type n=>some (.ty n)
 |_=>none
theorem RelV.abs {x:V} {u:Value} (r:RelV x u):Yn u=some x:=by
 cases x with
 |non=>cases r;rfl
 |bl _=>cases r;rfl
 |int _=>obtain ⟨t,rfl⟩:=r;rfl
 |str _=>obtain ⟨t,rfl⟩:=r;rfl
 |byt _=>obtain ⟨t,rfl⟩:=r;rfl
 |flt _=>obtain ⟨t,rfl⟩:=r;rfl
 |ref _=>cases r;rfl
 |ty _=>cases r;rfl
theorem RelV.inj {x y:V} {u:Value} (r:RelV x u) (q:RelV y u):x=y:=Option.some.inj (r.abs.symm.trans q.abs)
theorem AS.inj:∀{xs ys:List V} {us:List Value},AS xs us->AS ys us->xs=ys
 |_,_,_,.nil,.nil=>rfl
 |_,_,_,.cons r t,.cons r' t'=>by rw[r.inj r',AS.inj t t']
section
variable {X:Cx} {pins:List (Addr×Obj)} {σ:St} {H:Hp} {s:Shared} {a:Addr} {xs ys:List V}
theorem SqL.of {K:PySem.W.Frag} (h:H a=some (.lst xs)):SqL K H a xs:=.inl (.inl h)
theorem SqT.of {K:PySem.W.Frag} (h:H a=some (.tup xs)):SqT K H a xs:=.inl (.inl h)
theorem Inv.list (I:Inv X pins σ H s) (h:SqL X.K H a xs):∃its:List Value,AS xs its/\PlainL s.heap a its.toArray/\xs.length<=sizeLine:=by
 rcases h with h|⟨o,its,n,hk,hc,hd,hs,hz,r⟩
 ·obtain ⟨z,its,n,r,e⟩:=h.ok I.hok
  exact ⟨its,r,⟨_,n,e,rfl,rfl,rfl⟩,z⟩
 ·refine ⟨its.toList,r,⟨o,n,I.kIn a o hk,hc,hd,by simpa using hs⟩,?_⟩
  have e:=r.length
  simp only[Array.length_toList]at e
  omega
theorem Inv.tuple (I:Inv X pins σ H s) (h:SqT X.K H a xs):∃its:List Value,AS xs its/\IsTup s.heap a its.toArray/\xs.length<=sizeLine:=by
 rcases h with h|⟨o,its,n,hk,hc,hs,hz,r⟩
 ·obtain ⟨z,its,r,p⟩:=h.ok I.hok
  exact ⟨its,r,p,z⟩
 ·refine ⟨its.toList,r,⟨o,I.kIn a o hk,hc,n,by simpa using hs⟩,?_⟩
  have e:=r.length
  simp only[Array.length_toList]at e
  omega
theorem Inv.list_inj (I:Inv X pins σ H s) (h:SqL X.K H a xs) (h':SqL X.K H a ys):xs=ys:=by
 obtain ⟨its,r,⟨o,n,e,_,_,d⟩,_⟩:=I.list h
 obtain ⟨its',r',⟨o',n',e',_,_,d'⟩,_⟩:=I.list h'
 rw[e]at e';cases e'
 rw[d]at d'
 injection d' with d1 _
 have:its=its':=by simpa using congrArg Array.toList d1
 subst this
 exact r.inj r'
theorem Inv.tuple_inj (I:Inv X pins σ H s) (h:SqT X.K H a xs) (h':SqT X.K H a ys):xs=ys:=by
 obtain ⟨its,r,⟨o,e,_,n,d⟩,_⟩:=I.tuple h
 obtain ⟨its',r',⟨o',e',_,n',d'⟩,_⟩:=I.tuple h'
 rw[e]at e';cases e'
 rw[d]at d'
 injection d' with d1 _
 have:its=its':=by simpa using congrArg Array.toList d1
 subst this
 exact r.inj r'
end
abbrev Cx.wish (X:Cx) (E:Value->Shared->Prop):Cx:={X with xe:=E}
abbrev Cx.nox (X:Cx):Cx:=X.wish fun _ _=>False
theorem Cx.Ok.wish {X:Cx} (ok:X.Ok) (E:Value->Shared->Prop):(X.wish E).Ok:=
 ⟨ok.mod,ok.kind,ok.glob,ok.blt,ok.above,ok.inj,ok.has,ok.cab,ok.hd,ok.frames,ok.stk,ok.exf,ok.bs,ok.bsz,ok.noex,ok.exfs,ok.funs,ok.frf⟩
theorem Cx.Ok.unwish {X:Cx} {E:Value->Shared->Prop} (ok:(X.wish E).Ok):X.Ok:=
 ⟨ok.mod,ok.kind,ok.glob,ok.blt,ok.above,ok.inj,ok.has,ok.cab,ok.hd,ok.frames,ok.stk,ok.exf,ok.bs,ok.bsz,ok.noex,ok.exfs,ok.funs,ok.frf⟩
section
variable {X:Cx} {pins:List (Addr×Obj)} {σ:St} {H:Hp} {s:Shared} {E:Value->Shared->Prop}
theorem Inv.wish (I:Inv X pins σ H s) (E:Value->Shared->Prop):Inv (X.wish E) pins σ H s:=⟨I.ok.wish E,I.os,I.bare,I.base,I.loc,I.cell,I.free,I.freeC,I.pin,I.hok,I.len⟩
theorem Inv.unwish (I:Inv (X.wish E) pins σ H s):Inv X pins σ H s:=⟨I.ok.unwish,I.os,I.bare,I.base,I.loc,I.cell,I.free,I.freeC,I.pin,I.hok,I.len⟩
theorem SP.unwish {D:JW} {f:Flow} {s':Shared} (h:SP (X.wish E) pins D f s'):SP X pins D f s':=by
 cases f with
 |next=>obtain ⟨σ',H',I,q⟩:=h;exact ⟨σ',H',I.unwish,q⟩
 |brk=>obtain ⟨σ',H',I,q⟩:=h;exact ⟨σ',H',I.unwish,q⟩
 |cont=>obtain ⟨σ',H',I,q⟩:=h;exact ⟨σ',H',I.unwish,q⟩
 |ret u=>obtain ⟨v,σ',H',I,r,q⟩:=h;exact ⟨v,σ',H',I.unwish,r,q⟩
theorem PSs.nox {st:List Stmt} {t:TS} (h:PSs X.nox st t):PSs X st t:=fun pins s σ H D I hw=>
 wpAny_mono (h pins s σ H D (I.wish _) hw) (fun _ _ q=>q.unwish) fun _ _ z=>False.elim z
end
section
variable {X:Cx} {st:Stmt} {Ax:List Stmt} {t u:TS} {e:Expr} {te:TE} {pos:Pos}
def Qr:TS:=fun D σ H=>D.nx σ H
def UR (t u:TS):TS:=fun D σ H=>t {D with nx:=u D} σ H
theorem AB:PSs X [] Qr:=fun _ _ σ H _ I h=>wpAny_execs_nil ⟨σ,H,I,h⟩
theorem A2 (h1:PS X st t) (h2:PSs X Ax u):PSs X (st::Ax) (UR t u):=by
 intro pins s σ H D I h
 refine wpAny_execs_cons (thn (h1 pins s σ H {D with nx:=u D} I h) fun f s1 q=>?_)
 cases f with
 |next=>
  obtain ⟨σ',H',I',q⟩:=q
  exact h2 pins s1 σ' H' D I' q
 |ret v=>exact q
 |brk=>exact q
 |cont=>exact q
theorem A5 (h1:PS X st t):PSs X [st] t:=by
 intro pins s σ H D I h
 refine wpAny_execs_cons (thn (h1 pins s σ H D I h) fun f s1 q=>?_)
 cases f with
 |next=>exact wpAny_execs_nil q
 |ret v=>exact q
 |brk=>exact q
 |cont=>exact q
theorem Inv.quiet {pins:List (Addr×Obj)} {σ:St} {H:Hp} {s:Shared} (I:Inv X pins σ H s):interactive X.env=false:=by simp[interactive,I.ok.kind]
def Qq (te:TE):TS:=fun D σ H=>te σ H fun _ H1=>D.nx σ H1
theorem BE (he:PE X e te) (hs:swapsWith e none pos.line X.env=pure false:=by rfl):PS X (.Expr e pos) (Qq te):=by
 intro pins s σ H D I h
 exact wpAny_Expr_any (thn (he pins s σ H _ I h) fun v s1 ⟨x,H1,I1,r1,q1⟩=>⟨σ,H1,I1,q1⟩) I.quiet hs
def Ur (te:TE):TS:=fun D σ H=>te σ H D.rt
theorem A6 (he:PE X e te):PS X (.Return (some e) pos) (Ur te):=by
 intro pins s σ H D I h
 exact wpAny_Return_some (thn (he pins s σ H _ I h) fun v s1 ⟨x,H1,I1,r1,q1⟩=>⟨x,σ,H1,I1,r1,q1⟩)
def UO:TS:=fun D _ H=>D.rt .non H
def U3 (c:TT) (t u:TS):TS:=fun D σ H=>c σ H fun b H1=>if b=true then t D σ H1 else u D σ H1
theorem AH {c:Expr} {a b:List Stmt} {tc:TT} (hc:PT X c tc) (ha:PSs X a t) (hb:PSs X b u):PS X (.If c a b pos) (U3 tc t u):=by
 intro pins s σ H D I h
 refine wpAny_If (thn (hc pins s σ H _ I h) fun d s1 ⟨H1,I1,q1⟩=>?_)
 cases d with
 |true=>exact ha pins s1 σ H1 D I1 q1
 |false=>exact hb pins s1 σ H1 D I1 q1
def YC:TS:=fun _ _ _=>False
theorem WR:PS X st YC:=fun _ _ _ _ _ _ h=>h.elim
end
abbrev TG:=V->St->Hp->(St->Hp->Prop)->Prop
abbrev TGs:=List V->St->Hp->(St->Hp->Prop)->Prop
def PG (X:Cx) (target:Expr) (t:TG):Prop:=
 ∀(pins:List (Addr×Obj)) (s:Shared) (σ:St) (H:Hp) (v:V) (u:Value) (Q:St->Hp->Prop),Inv X pins σ H s->RelV v u->t v σ H Q->
  wpAny (model X.prog X.w) X.A (assign target X.env u) (fun _ s'=>∃σ' H',Inv X pins σ' H' s'/\Q σ' H') X.xe s
def PGs (X:Cx) (ts:List Expr) (t:TGs):Prop:=
 ∀(pins:List (Addr×Obj)) (s:Shared) (σ:St) (H:Hp) (vs:List V) (us:List Value) (Q:St->Hp->Prop),Inv X pins σ H s->AS vs us->t vs σ H Q->
  wpAny (model X.prog X.w) X.A (assignInOrder ((assignEach ts X.env).map (·.2)) us) (fun _ s'=>∃σ' H',Inv X pins σ' H' s'/\Q σ' H') X.xe s
abbrev WU:=V->V->V->Hp->(Hp->Prop)->Prop
def YJ (X:Cx) (t:WU):Prop:=
 ∀(pins:List (Addr×Obj)) (s:Shared) (σ:St) (H:Hp) (o i v:V) (ov iv u:Value) (Q:Hp->Prop),Inv X pins σ H s->RelV o ov->RelV i iv->RelV v u->t o i v H Q->
  wpAny (model X.prog X.w) X.A (setItem ov iv u) (fun _ s'=>∃H',Inv X pins σ H' s'/\Q H') X.xe s
section
variable {X:Cx} {pos:Pos}
def KG (i:Nat):TG:=fun v σ H Q=>Q (σ.set i (some v)) H
theorem AZ {i:Nat} {x:Str} (hN:X.N.Nodup) (hi:X.N[i]?=some x) (hx:Loc X.env.scope x) (hf:X.fn x=true\/X.env.scope.names.lookup x=some .local:=by first|exact .inl rfl|exact .inr rfl|assumption):PG X (.Name x pos) (KG i):=by
 intro pins s σ H v u Q I r h
 exact wpAny_assign_Name (S6 I hN hi hx r (fun s' I'=>⟨_,H,I',h⟩) hf)
def Uo:TGs:=fun vs σ H Q=>vs=[]/\Q σ H
def Qp (t:TG) (u:TGs):TGs:=fun vs σ H Q=>∃v r,vs=v::r/\t v σ H fun σ' H'=>u r σ' H' Q
theorem Gc:PGs X [] Uo:=by
 intro pins s σ H vs us Q I r h
 obtain ⟨e,h⟩:=h
 subst e
 cases r
 exact assignInOrder_nil ⟨σ,H,I,h⟩
theorem C2 {e:Expr} {es:List Expr} {t:TG} {u:TGs} (h1:PG X e t) (h2:PGs X es u)
  (hs:(assignEach (e::es) X.env).map (·.2)=assign e X.env::(assignEach es X.env).map (·.2):=by rfl):PGs X (e::es) (Qp t u):=by
 intro pins s σ H vs us Q I r h
 obtain ⟨v,vr,e1,h⟩:=h
 subst e1
 cases r with
 |cons r rr=>
  rw[hs]
  refine assignInOrder_cons (thn (h1 pins s σ H _ _ _ I r h) fun _ s1 ⟨σ1,H1,I1,q1⟩=>?_)
  exact h2 pins s1 σ1 H1 _ _ Q I1 rr q1
def RY (K:PySem.W.Frag) (n:Nat) (t:TGs):TG:=fun v σ H Q=>∃a xs,v=.ref a/\SqT K H a xs/\xs.length=n/\t xs σ H Q
theorem Xr {es:List Expr} {k:Nat} {t:TGs} {n:Nat} (hc:X.calm=true) (h:PGs X es t)
  (hn:(assignEach es X.env).length=n:=by rfl) (hst:(assignEach es X.env).findIdx? (·.1)=none:=by rfl):PG X (.Tuple es k pos) (RY X.K n t):=by
 intro pins s σ H v u Q I r hw
 obtain ⟨a,xs,e1,hq,hl,hw⟩:=hw
 subst e1
 cases r
 obtain ⟨its,rv,ht,hz⟩:=I.tuple hq
 refine assign_Tuple_tuple (I.ok.hd hc) ht (by simp[hn,<-hl,rv.length]) hst fun h' hx=>?_
 have I1:Inv X pins σ H {s with heap:=h'}:=I.kept (t':=s.toks) fun b o e=>hx b o (Nat.ne_of_lt (Heap.lt_size e)) e
 exact h pins _ σ H xs _ Q I1 (by simpa using rv) hw
def U5 (to ti:TE) (t:WU):TG:=fun v σ H Q=>to σ H fun o H1=>ti σ H1 fun i H2=>t o i v H2 fun H3=>Q σ H3
theorem Va {o i:Expr} {to ti:TE} {t:WU} (ho:PE X o to) (hi:PE X i ti) (hs:YJ X t)
  (ha:∀v,assign (.Subscript o i pos) X.env v=(do
   let ov <-holding [v] (eval o X.env)
   let iv <-holding [v,ov] (eval i X.env)
   standAt pos
   holding [v,ov,iv] (setItem ov iv v)
   release [v,ov,iv] []):=by intro _;rfl):PG X (.Subscript o i pos) (U5 to ti t):=by
 intro pins s σ H v u Q I r h
 rw[ha]
 refine wpAny_bind (wpAny_holding (thn (ho pins s σ H _ I h) fun ov s1 ⟨x,H1,I1,r1,q1⟩=>?_))
 refine wpAny_bind (wpAny_holding (thn (hi pins s1 σ H1 _ I1 q1) fun iv s2 ⟨y,H2,I2,r2,q2⟩=>?_))
 refine wpAny_bind (wpAny_standAt (wpAny_bind (wpAny_holding (thn (hs pins s2 σ H2 x y v ov iv u _ I2 r1 r2 r q2) fun _ s3 ⟨H3,I3,q3⟩=>?_))))
 exact wpAny_release ⟨σ,H3,I3,q3⟩
def PY (te:TE) (g:TG):TS:=fun D σ H=>te σ H fun x H1=>g x σ H1 D.nx
theorem Vm {tg e:Expr} {te:TE} {g:TG} (he:PE X e te) (hg:PG X tg g) (hs:swapsWithSole [tg] e pos.line X.env=pure false:=by rfl) (hw:swappedStores [tg] e X.env=pure none:=by rfl)
  (h1:(assignEach [tg] X.env).map (·.2)=[assign tg X.env]:=by rfl):PS X (.Assign [tg] e pos) (PY te g):=by
 intro pins s σ H D I h
 refine wpAny_Assign_stores (thn (he pins s σ H _ I h) fun v s1 ⟨x,H1,I1,r1,q1⟩=>?_) hs hw
 rw[h1]
 exact thn (hg pins s1 σ H1 x v _ I1 r1 q1) fun _ s2 q=>q
theorem AE {i:Nat} {x:Str} {e:Expr} {te:TE} {pos':Pos} (hN:X.N.Nodup) (hi:X.N[i]?=some x) (hx:Loc X.env.scope x) (he:PE X e te) (hs:swapsWith e (some (.Name x pos')) pos.line X.env=pure false:=by rfl) (hf:X.fn x=true\/X.env.scope.names.lookup x=some .local:=by first|exact .inl rfl|exact .inr rfl|assumption):
  PS X (.Assign [.Name x pos'] e pos) (PY te (KG i)):=by
 intro pins s σ H D I h
 refine wpAny_Assign_Name (thn (he pins s σ H _ I h) fun v s1 ⟨y,H1,I1,r1,q1⟩=>?_) hs
 exact S6 I1 hN hi hx r1 (fun s2 I2=>⟨_,H1,I2,q1⟩) hf
end
section
variable {X:Cx} {pos:Pos}
def Xl (c:TT) (tb:TS):TS:=fun D σ H=>∃W:Nat->St->Hp->Prop,(∃m,W m σ H)/\∀m σ H,W m σ H->
 c σ H fun b H1=>if b=true then ∃N:St->Hp->Prop,(∀σ' H',N σ' H'->∃m',m'<m/\W m' σ' H')/\tb {D with nx:=N,ct:=N,bk:=D.nx} σ H1 else D.nx σ H1
theorem Wf {c:Expr} {body:List Stmt} {tc:TT} {tb:TS} (hp:PassesOwn (model X.prog X.w) X.A X.env X.xe) (hc:PT X c tc) (hb:PSs X body tb):PS X (.While c body [] pos) (Xl tc tb):=by
 intro pins s σ H D I h
 obtain ⟨W,⟨m0,w0⟩,turn⟩:=h
 refine wpAny_While (codeAny_whileLoop (fun n s'=>∃σ' H',Inv X pins σ' H' s'/\W n σ' H') ?_ m0 ⟨σ,H,I,w0⟩)
 rintro n s1 ⟨σ1,H1,I1,w1⟩
 refine wpAny_passesOwn hp (thn (hc pins s1 σ1 H1 _ I1 (turn n σ1 H1 w1)) fun b s2 ⟨H2,I2,q2⟩=>?_)
 cases b with
 |true=>
  obtain ⟨N,hN,q2⟩:=q2
  rw[if_pos rfl]
  refine wpAny_passesOwn hp (thn (hb pins s2 σ1 H2 _ I2 q2) fun f s3 q3=>?_)
  cases f with
  |next=>
   obtain ⟨σ3,H3,I3,n3⟩:=q3
   obtain ⟨m',hm,w3⟩:=hN σ3 H3 n3
   exact ⟨m',hm,σ3,H3,I3,w3⟩
  |cont=>
   obtain ⟨σ3,H3,I3,n3⟩:=q3
   obtain ⟨m',hm,w3⟩:=hN σ3 H3 n3
   exact ⟨m',hm,σ3,H3,I3,w3⟩
  |brk=>exact q3
  |ret v=>exact q3
 |false=>
  rw[if_neg Bool.false_ne_true]
  exact wpAny_execs_nil ⟨σ1,H2,I2,q2⟩
end
structure It where
 go:Nat->Hp->Prop
 yld:Nat->Hp->V->Hp->Prop
 stop:Nat->Hp->Prop
def Ib (X:Cx) (pins:List (Addr×Obj)) (H:Hp) (b:Addr):Prop:=
 H b=none/\b≠X.env.locals/\b∉X.fs/\(b∈X.ex\/X.s_0.heap.objs.size<=b)/\(∀x c,X.env.cells.lookup x=some c->c≠b)/\∀p∈X.pn++pins,p.1≠b
theorem Inv.fpOk {X:Cx} {pins:List (Addr×Obj)} {σ:St} {H H':Hp} {s:Shared} {b:Addr} (I:Inv X pins σ H s) (hb:s.heap.objs.size<=b) (hn:H' b=none):Ib X pins H' b:=by
 refine ⟨hn,Nat.ne_of_gt (Nat.lt_of_lt_of_le I.lt hb),I.nofs hb,.inr (Nat.le_trans I.sz hb),fun x c e z=>?_,fun p hp z=>?_⟩
 ·obtain ⟨v,q⟩:=I.cell x c e
  exact absurd (Nat.lt_of_lt_of_le q.lt (by rw[z];exact hb)) (Nat.lt_irrefl _)
 ·exact absurd (Nat.lt_of_lt_of_le (Heap.lt_size (I.pin p hp).1) (by rw[z];exact hb)) (Nat.lt_irrefl _)
structure Li (P:Program) (w:World) (K:PySem.W.Frag) (tg:Expr) (J:It) (fp:List Addr) (it:Addr) (tn:Nat->Heap->Prop):Prop where
 mem:it∈fp
 obj:∀i h,tn i h->∀b∈fp,∃o,h.get? b=some o/\∀v,o.data≠.cell v
 keep:∀i h h',tn i h->(∀b∈fp,∀o,h.get? b=some o->h'.get? b=some o)->tn i h'
 item:∀(X:Cx),X.prog=P->X.w=w->X.K=K->X.calm=true->∀(i:Nat) (pins:List (Addr×Obj)) (s:Shared) (σ:St) (H:Hp) (E:Value->Shared->Prop),Inv X pins σ H s->(∀b∈fp,Ib X pins H b)->tn i s.heap->J.go i H->
  wpAny (model P w) X.A (pyNext (.ref it)) (fun r s1=>∃u,r=some u/\
   wpAny (model P w) X.A (letOwnedTupleGo tg (.ref it) u) (fun _ s2=>∃x H',Inv X pins σ H' s2/\RelV x u/\J.yld i H x H'/\tn (i+1) s2.heap/\∀b∈fp,H' b=none) E s1) E s
 done:∀(X:Cx),X.prog=P->X.w=w->X.K=K->X.calm=true->∀(i:Nat) (pins:List (Addr×Obj)) (s:Shared) (σ:St) (H:Hp) (E:Value->Shared->Prop),Inv X pins σ H s->(∀b∈fp,Ib X pins H b)->tn i s.heap->J.stop i H->
  wpAny (model P w) X.A (pyNext (.ref it)) (fun r s1=>r=none/\Inv X pins σ H s1) E s
 self:∀(A:Around) (i:Nat) (s:Shared) (Q:Value->Shared->Prop) (E:Value->Shared->Prop),tn i s.heap->Q (.ref it) s->wpAny (model P w) A (pyIter (.ref it)) Q E s
abbrev TI:=St->Hp->(It->Hp->Prop)->Prop
def PIE (X:Cx) (pins:List (Addr×Obj)) (σ:St) (tg:Expr) (R:It->Hp->Prop) (itv:Value) (s2:Shared):Prop:=
 ∃(it:Addr) (fp:List Addr) (tn:Nat->Heap->Prop) (J:It) (H':Hp),itv=.ref it/\Inv X pins σ H' s2/\Li X.prog X.w X.K tg J fp it tn/\tn 0 s2.heap/\(∀b∈fp,Ib X pins H' b)/\R J H'
def PI (X:Cx) (tg iter:Expr) (wi:TI):Prop:=
 ∀(pins:List (Addr×Obj)) (s:Shared) (σ:St) (H:Hp) (R:It->Hp->Prop),Inv X pins σ H s->wi σ H R->
  wpAny (model X.prog X.w) X.A (eval iter X.env) (fun v s1=>wpAny (model X.prog X.w) X.A (pyIter v) (PIE X pins σ tg R) X.xe s1) X.xe s
theorem Of {M:Model} {A:Around} {E:Value->Shared->Prop} {s:Shared} {tg:Expr} {it:Addr} {u:Value} {o:Obj} {n:String} {vs:Array Value} {Q:Unit->Shared->Prop} (ho:s.heap.get? it=some o) (hc:o.cls=.type n) (hd:o.data=.fields vs)
  (hn:["enumerate","zip","dict_itemiterator","dict_reverseitemiterator","odict_iterator","itertools.zip_longest","itertools.pairwise"].contains n=false) (hQ:Q () s):wpAny M A (letOwnedTupleGo tg (.ref it) u) Q E s:=by
 unfold letOwnedTupleGo
 cases tg<;>first
  |exact wpAny_pure hQ
  |(cases u<;>first
    |exact wpAny_pure hQ
    |(refine wpAny_bind (wpAny_load ho ?_);rw[hc,hd];show wpAny M A (if (["enumerate","zip","dict_itemiterator","dict_reverseitemiterator","odict_iterator","itertools.zip_longest","itertools.pairwise"].contains n&&vs[0]?==some (rawInt _))=true then _ else _) Q E s;rw[if_neg (by intro h;rw[hn,Bool.false_and]at h;cases h)];exact wpAny_pure hQ))
def Itl (K:PySem.W.Frag) (a:Addr):It:=
 ⟨fun i H=>∃xs x,SqL K H a xs/\xs[i]?=some x,fun i H x H'=>H'=H/\∀xs,SqL K H a xs->xs[i]?=some x,fun i H=>∃xs,SqL K H a xs/\xs.length<=i⟩
def Itt (K:PySem.W.Frag) (a:Addr):It:=
 ⟨fun i H=>∃xs x,SqT K H a xs/\xs[i]?=some x,fun i H x H'=>H'=H/\∀xs,SqT K H a xs->xs[i]?=some x,fun i H=>∃xs,SqT K H a xs/\xs.length<=i⟩
def Itr (lo:Int) (n:Nat):It:=⟨fun i _=>i<n,fun i H x H'=>H'=H/\x=.int (lo+i),fun i _=>n<=i⟩
theorem VG {P:Program} {w:World} {K:PySem.W.Frag} {tg:Expr} (a it:Addr):Li P w K tg (Itl K a) [it] it (fun i h=>h.IsListIter it a i) where
 mem:=by simp
 obj:=fun i h st b hb=>by
  have e:b=it:=by simpa using hb
  subst e
  obtain ⟨o,e,c,d⟩:=st
  exact ⟨o,e,fun v z=>by rw[d]at z;cases z⟩
 keep:=fun i h h' st k=>st.at fun o e=>k it (by simp) o e
 item:=by
  intro X hP hw hK hc i pins s σ H E I hf st hg
  subst hP hw hK
  obtain ⟨xs,x,hq,hx⟩:=hg
  obtain ⟨its,rv,p,hz⟩:=I.list hq
  obtain ⟨u,hu,ru⟩:=rv.get hx
  obtain ⟨f0,f1,f2,f3,f4,f5⟩:=hf it (by simp)
  refine wpAny_pyNext_list_item st p.isList (x:=u) (by simpa using hu) fun h' st' sb=>?_
  have I1:Inv X pins σ H {s with heap:=h'}:=I.turned (t':=s.toks) (fun b o hb e=>(sb.2 b hb).trans e) f0 f1 f3 f4 f5
  obtain ⟨o,e,c,d⟩:=id st'
  exact ⟨u,rfl,Of (s:={s with heap:=h'}) e c d (by decide) ⟨x,H,I1,ru,⟨rfl,fun ys hy=>by rw[I.list_inj hy hq];exact hx⟩,st',fun b hb=>(hf b hb).1⟩⟩
 done:=by
  intro X hP hw hK hc i pins s σ H E I hf st hg
  subst hP hw hK
  obtain ⟨xs,hq,hx⟩:=hg
  obtain ⟨its,rv,p,hz⟩:=I.list hq
  obtain ⟨f0,f1,f2,f3,f4,f5⟩:=hf it (by simp)
  have hl:=rv.length
  exact wpAny_pyNext_list_end (I.ok.hd hc) st p.isList (by simp;omega) fun h' eb=>⟨rfl,I.turned (t':=s.toks) (fun b o hb e=>eb b o hb e) f0 f1 f3 f4 f5⟩
 self:=fun _ _ _ _ _ st h=>wpAny_pyIter_listiter st h
theorem UF {P:Program} {w:World} {K:PySem.W.Frag} {tg:Expr} (a it:Addr):Li P w K tg (Itt K a) [it] it (fun i h=>h.IsTupleIter it a i) where
 mem:=by simp
 obj:=fun i h st b hb=>by
  have e:b=it:=by simpa using hb
  subst e
  obtain ⟨o,e,c,d⟩:=st
  exact ⟨o,e,fun v z=>by rw[d]at z;cases z⟩
 keep:=fun i h h' st k=>st.at fun o e=>k it (by simp) o e
 item:=by
  intro X hP hw hK hc i pins s σ H E I hf st hg
  subst hP hw hK
  obtain ⟨xs,x,hq,hx⟩:=hg
  obtain ⟨its,rv,p,hz⟩:=I.tuple hq
  obtain ⟨u,hu,ru⟩:=rv.get hx
  obtain ⟨f0,f1,f2,f3,f4,f5⟩:=hf it (by simp)
  refine wpAny_pyNext_tuple_item st (show s.heap.IsTuple a its.toArray from p) (x:=u) (by simpa using hu) fun h' st' sb=>?_
  have I1:Inv X pins σ H {s with heap:=h'}:=I.turned (t':=s.toks) (fun b o hb e=>(sb.2 b hb).trans e) f0 f1 f3 f4 f5
  obtain ⟨o,e,c,d⟩:=id st'
  exact ⟨u,rfl,Of (s:={s with heap:=h'}) e c d (by decide) ⟨x,H,I1,ru,⟨rfl,fun ys hy=>by rw[I.tuple_inj hy hq];exact hx⟩,st',fun b hb=>(hf b hb).1⟩⟩
 done:=by
  intro X hP hw hK hc i pins s σ H E I hf st hg
  subst hP hw hK
  obtain ⟨xs,hq,hx⟩:=hg
  obtain ⟨its,rv,p,hz⟩:=I.tuple hq
  obtain ⟨f0,f1,f2,f3,f4,f5⟩:=hf it (by simp)
  have hl:=rv.length
  exact wpAny_pyNext_tuple_end (I.ok.hd hc) st (show s.heap.IsTuple a its.toArray from p) (by simp;omega) fun h' eb=>⟨rfl,I.turned (t':=s.toks) (fun b o hb e=>eb b o hb e) f0 f1 f3 f4 f5⟩
 self:=fun _ _ _ _ _ st h=>wpAny_pyIter_tupleiter st h
theorem U8 {P:Program} {w:World} {K:PySem.W.Frag} {tg:Expr} (it:Addr) (lo:Int) (n:Nat):Li P w K tg (Itr lo n) [it] it (fun i h=>IsRangeIter h it (lo+(i:Nat)*1) ((n:Int) - (i:Nat)) 1) where
 mem:=by simp
 obj:=fun i h st b hb=>by
  have e:b=it:=by simpa using hb
  subst e
  exact ⟨_,st,fun v z=>by
   have z':Data.fields _=Data.cell v:=z
   cases z'⟩
 keep:=fun i h h' st k=>k it (by simp) _ st
 item:=by
  intro X hP hw hK hc i pins s σ H E I hf st hg
  subst hP hw hK
  obtain ⟨f0,f1,f2,f3,f4,f5⟩:=hf it (by simp)
  have W:=Walks.range (prog:=X.prog) (w:=X.w) (I.ok.hd hc) it lo 1 n
  refine W.item i s _ _ hg st fun v h' tk hv st' kk=>?_
  obtain ⟨t,rfl⟩:=hv
  have I1:Inv X pins σ H {s with heap:=h',toks:=tk}:=I.turned (fun b o hb e=>kk b o (by simpa using hb) e) f0 f1 f3 f4 f5
  refine ⟨_,rfl,Of (s:={s with heap:=h',toks:=tk}) (n:="range_iterator") st' rfl rfl (by decide) ⟨.int (lo+i),H,I1,⟨t,?_⟩,⟨rfl,rfl⟩,st',fun b hb=>(hf b hb).1⟩⟩
  rw[Int.mul_one]
 done:=by
  intro X hP hw hK hc i pins s σ H E I hf st hg
  subst hP hw hK
  obtain ⟨f0,f1,f2,f3,f4,f5⟩:=hf it (by simp)
  exact wpAny_pyNext_range_end (I.ok.hd hc) st (by have:n<=i:=hg;omega) fun h' eb=>⟨rfl,I.turned (t':=s.toks) (fun b o hb e=>eb b o hb e) f0 f1 f3 f4 f5⟩
 self:=fun _ _ _ _ _ st h=>wpAny_pyIter_rangeiter st h
end L2
namespace L2
open PySem PySem.Spec PyProof.Rows
section
variable {X:Cx} {tg:Expr}
def Qy (K:PySem.W.Frag) (tl:TE):TI:=fun σ H R=>tl σ H fun x H1=>∃a,x=.ref a/\(∃xs,SqL K H1 a xs)/\R (Itl K a) H1
def Uh (K:PySem.W.Frag) (tl:TE):TI:=fun σ H R=>tl σ H fun x H1=>∃a,x=.ref a/\(∃xs,SqT K H1 a xs)/\R (Itt K a) H1
theorem B4 {l:Expr} {tl:TE} (hl:PE X l tl):PI X tg l (Qy X.K tl):=by
 intro pins s σ H R I h
 refine thn (hl pins s σ H _ I h) fun v s1 ⟨x,H1,I1,r1,q1⟩=>?_
 obtain ⟨a,e,⟨xs,hq⟩,q⟩:=q1
 subst e
 cases r1
 obtain ⟨its,rv,p,hz⟩:=I1.list hq
 refine wpAny_pyIter_list p.isList ?_
 refine ⟨s1.heap.objs.size,[s1.heap.objs.size],_,_,H1,rfl,I1.kept (t':=s1.toks) fun b o e=>Heap.get?_push_of_some _ e,VG a _,⟨_,Heap.get?_push_size _ rfl,rfl,rfl⟩,fun b hb=>?_,q⟩
 have e:b=s1.heap.objs.size:=by simpa using hb
 subst e
 exact I1.fpOk (Nat.le_refl _) (I1.hok.fresh (Nat.le_refl _))
theorem VC {l:Expr} {tl:TE} (hl:PE X l tl):PI X tg l (Uh X.K tl):=by
 intro pins s σ H R I h
 refine thn (hl pins s σ H _ I h) fun v s1 ⟨x,H1,I1,r1,q1⟩=>?_
 obtain ⟨a,e,⟨xs,hq⟩,q⟩:=q1
 subst e
 cases r1
 obtain ⟨its,rv,p,hz⟩:=I1.tuple hq
 refine wpAny_pyIter_tuple (show s1.heap.IsTuple a its.toArray from p) ?_
 refine ⟨s1.heap.objs.size,[s1.heap.objs.size],_,_,H1,rfl,I1.kept (t':=s1.toks) fun b o e=>Heap.get?_push_of_some _ e,UF a _,⟨_,Heap.get?_push_size _ rfl,rfl,rfl⟩,fun b hb=>?_,q⟩
 have e:b=s1.heap.objs.size:=by simpa using hb
 subst e
 exact I1.fpOk (Nat.le_refl _) (I1.hok.fresh (Nat.le_refl _))
theorem S7 {pins:List (Addr×Obj)} {σ:St} {H:Hp} {s:Shared} {R:It->Hp->Prop} {E:Value->Shared->Prop} {lo hi:Int} {t u v:Tok} {tk:Nat} (I:Inv X pins σ H s) (h1:-(2 ^ 62)<=lo) (h2:lo<2 ^ 62) (h3:-(2 ^ 62)<=hi) (h4:hi<2 ^ 62)
  (q:R (Itr lo (hi - lo).toNat) H):wpAny (model X.prog X.w) X.A (pyIter (.ref s.heap.objs.size)) (PIE X pins σ tg R) E {s with heap:=s.heap.push {cls:=.type "range",data:=.fields #[.int lo t,.int hi u,.int 1 v]},toks:=tk}:=by
 refine wpAny_pyIter_range (IsRange.new ..) (small_one h1 h2 h3 h4) ?_
 have I1:Inv X pins σ H {s with heap:=s.heap.push {cls:=.type "range",data:=.fields #[.int lo t,.int hi u,.int 1 v]},toks:=tk}:=I.kept fun b o e=>Heap.get?_push_of_some _ e
 refine ⟨(s.heap.push {cls:=.type "range",data:=.fields #[.int lo t,.int hi u,.int 1 v]}).objs.size,[(s.heap.push {cls:=.type "range",data:=.fields #[.int lo t,.int hi u,.int 1 v]}).objs.size],_,_,H,rfl,
  I1.kept (t':=tk) fun b o e=>Heap.get?_push_of_some _ e,U8 _ lo (hi - lo).toNat,?_,fun b hb=>?_,q⟩
 ·have e1:lo+((0:Nat):Int)*1=lo:=by simp
  have e2:(((hi - lo).toNat:Nat):Int) - ((0:Nat):Int)=Builtin.Range.rangeSize lo hi 1:=by rw[rangeSize_one];split<;>omega
  show IsRangeIter _ _ (lo+((0:Nat):Int)*1) ((((hi - lo).toNat:Nat):Int) - ((0:Nat):Int)) 1
  rw[e1,e2]
  exact Heap.get?_push_size _ rfl
 ·have e:b=(s.heap.push {cls:=.type "range",data:=.fields #[.int lo t,.int hi u,.int 1 v]}).objs.size:=by simpa using hb
  subst e
  exact I1.fpOk (Nat.le_refl _) (I1.hok.fresh (Nat.le_refl _))
def Qj (ta:TA):TI:=fun σ H R=>ta σ H fun vs H1=>∃j:Int,vs=[.int j]/\-(2 ^ 62)<=j/\j<2 ^ 62/\R (Itr 0 j.toNat) H1
def Qx (ta:TA):TI:=fun σ H R=>ta σ H fun vs H1=>∃i j:Int,vs=[.int i,.int j]/\(-(2 ^ 62)<=i/\i<2 ^ 62/\-(2 ^ 62)<=j/\j<2 ^ 62)/\R (Itr i (j - i).toNat) H1
theorem JE {a:Expr} {ta:TA} {p pos:Pos} (hg:Gl X "range") (hm:X.mg "range"=none) (ha:PA X [a] ta) (hs:starEach [a] X.env=[(false,eval a X.env)]:=by rfl):PI X tg (.Call (.Name "range" p) [a] [] pos) (Qj ta):=by
 intro pins s σ H R I h
 refine Call_ (Ij I hg hm boot_range (PyProof.Rows.callWith_type1 (thn (ha pos pins s σ H _ I h) fun us s1 ⟨vs,H1,I1,r1,q1⟩=>?_) hs rfl))
 obtain ⟨j,e,q1,q2,q⟩:=q1
 subst e
 cases r1 with
 |cons r rr=>
  cases rr
  obtain ⟨t,rfl⟩:=r
  exact call_range_1 (S7 I1 (by omega) (by omega) q1 q2 (by simpa using q))
theorem Vk {a b:Expr} {ta:TA} {p pos:Pos} (hg:Gl X "range") (hm:X.mg "range"=none) (ha:PA X [a,b] ta) (hs:starEach [a,b] X.env=[(false,eval a X.env),(false,eval b X.env)]:=by rfl) (hs2:starEach [b] X.env=[(false,eval b X.env)]:=by rfl):
  PI X tg (.Call (.Name "range" p) [a,b] [] pos) (Qx ta):=by
 intro pins s σ H R I h
 refine Call_ (Ij I hg hm boot_range (PyProof.Rows.callWith_type1 (thn (ha pos pins s σ H _ I h) fun us s1 ⟨vs,H1,I1,r1,q1⟩=>?_) (by rw[hs,hs2]) (by rw[hs2];rfl)))
 obtain ⟨i,j,e,⟨q1,q2,q3,q4⟩,q⟩:=q1
 subst e
 cases r1 with
 |cons r rr=>
  cases rr with
  |cons r' rr=>
   cases rr
   obtain ⟨t,rfl⟩:=r
   obtain ⟨t',rfl⟩:=r'
   exact call_range_2 (S7 I1 q1 q2 q3 q4 q)
def Xy (wi:TI) (g:TG) (tb:TS):TS:=fun D σ H=>wi σ H fun J H1=>∃W:Nat->Nat->St->Hp->Prop,(∃m,W 0 m σ H1)/\∀i m σ H,W i m σ H->
 (J.stop i H/\D.nx σ H)\/(J.go i H/\∃N:St->Hp->Prop,(∀σ' H',N σ' H'->∃m',m'<m/\W (i+1) m' σ' H')/\∀x H',J.yld i H x H'->g x σ H' fun σ2 H2=>tb {D with nx:=N,ct:=N,bk:=D.nx} σ2 H2)
def Ll (fp:List Addr) (h:Heap):List (Addr×Obj):=fp.filterMap fun b=>(h.get? b).map fun o=>(b,o)
theorem Ka {fp:List Addr} {h:Heap} {b:Addr} {o:Obj} (hb:b∈fp) (e:h.get? b=some o):(b,o)∈Ll fp h:=List.mem_filterMap.mpr ⟨b,hb,by rw[e];rfl⟩
theorem VI {fp:List Addr} {h:Heap} {p:Addr×Obj} (hp:p∈Ll fp h):p.1∈fp/\h.get? p.1=some p.2:=by
 obtain ⟨b,hb,e⟩:=List.mem_filterMap.mp hp
 cases q:h.get? b with
 |none=>rw[q]at e;cases e
 |some o=>
  rw[q]at e
  have e':(b,o)=p:=Option.some.inj e
  subst e'
  exact ⟨hb,q⟩
theorem Inv.pinned {pins:List (Addr×Obj)} {σ:St} {H:Hp} {s:Shared} {fp:List Addr} (I:Inv X pins σ H s) (hf:∀b∈fp,Ib X pins H b) (ho:∀b∈fp,∃o,s.heap.get? b=some o/\∀v,o.data≠.cell v):Inv X (pins++Ll fp s.heap) σ H s:=
 I.pins_of fun p hp=>(List.mem_append.mp hp).elim (fun z=>I.pin p (List.mem_append_right _ z)) fun z=>by
  obtain ⟨hb,e⟩:=VI z
  obtain ⟨f0,f1,f2,_⟩:=hf p.1 hb
  obtain ⟨o,e',d⟩:=ho p.1 hb
  rw[e]at e';cases e'
  exact ⟨e,f0,f1,f2,d⟩
theorem Inv.unpinned {pins pl:List (Addr×Obj)} {σ:St} {H:Hp} {s:Shared} (I:Inv X (pins++pl) σ H s):Inv X pins σ H s:=I.pins_of fun p hp=>I.pin p (List.mem_append_right _ (List.mem_append_left _ hp))
theorem BH {iter:Expr} {body:List Stmt} {wi:TI} {g:TG} {tb:TS} {pos:Pos} (hp:PassesOwn (model X.prog X.w) X.A X.env X.xe) (hc:X.calm=true) (hi:PI X tg iter wi) (hg:PG X tg g) (hb:PSs X body tb)
  (hs:∀x,foldedSetIterable iter X.env x=pure x:=by intro _;rfl):PS X (.For tg iter body [] pos) (Xy wi g tb):=by
 intro pins s σ H D I h
 refine wpAny_For (thn (hi pins s σ H _ I h) fun v s1 h1=>thn h1 fun itv s2 h2=>?_) hs
 obtain ⟨it,fp,tn,J,H2,e,I2,T,st2,f2,W,⟨m0,w0⟩,turn⟩:=h2
 subst e
 have stat:∀{H':Hp},(∀b∈fp,H' b=none)->∀b∈fp,Ib X pins H' b:=fun hn b hb=>⟨hn b hb,(f2 b hb).2⟩
 refine codeAny_forLoop_any (fun n s'=>∃i σ' H',Inv X pins σ' H' s'/\tn i s'.heap/\(∀b∈fp,H' b=none)/\W i n σ' H') ?_ m0 ⟨0,σ,H2,I2,st2,fun b hb=>(f2 b hb).1,w0⟩
 rintro n s3 ⟨i,σ3,H3,I3,st3,fr3,w3⟩
 rcases turn i n σ3 H3 w3 with ⟨stop,qn⟩|⟨go,N,hN,step⟩
 ·refine wpAny_passesOwn hp (thn (T.done X rfl rfl rfl hc i pins s3 σ3 H3 X.xe I3 (stat fr3) st3 stop) fun r s4 ⟨hr,I4⟩=>?_)
  subst hr
  exact wpAny_execs_nil ⟨σ3,H3,I4,qn⟩
 ·refine wpAny_passesOwn hp (thn (T.item X rfl rfl rfl hc i pins s3 σ3 H3 X.xe I3 (stat fr3) st3 go) fun r s4 ⟨u,hr,h4⟩=>?_)
  subst hr
  refine wpAny_passesOwn hp (thn h4 fun _ s5 ⟨x,H5,I5,r5,y5,st5,fr5⟩=>?_)
  have I5':=I5.pinned (stat fr5) (T.obj _ _ st5)
  refine wpAny_passesOwn hp (thn (hg _ s5 σ3 H5 x u _ I5' r5 (step x H5 y5)) fun _ s6 ⟨σ6,H6,I6,q6⟩=>?_)
  refine wpAny_passesOwn hp (thn (hb _ s6 σ6 H6 _ I6 q6) fun f s7 q7=>?_)
  have again:∀{σ7:St} {H7:Hp},Inv X (pins++Ll fp s5.heap) σ7 H7 s7->N σ7 H7->∃m,m<n/\∃i σ' H',Inv X pins σ' H' s7/\tn i s7.heap/\(∀b∈fp,H' b=none)/\W i m σ' H':=fun {σ7 H7} I7 n7=>by
   obtain ⟨m',hm,w7⟩:=hN σ7 H7 n7
   refine ⟨m',hm,i+1,σ7,H7,I7.unpinned,T.keep _ _ _ st5 fun b hb o e=>(I7.pin (b,o) (List.mem_append_right _ (List.mem_append_right _ (Ka hb e)))).1,fun b hb=>?_,w7⟩
   obtain ⟨o,e,d⟩:=T.obj _ _ st5 b hb
   exact (I7.pin (b,o) (List.mem_append_right _ (List.mem_append_right _ (Ka hb e)))).2.1
  cases f with
  |next=>obtain ⟨σ7,H7,I7,n7⟩:=q7;exact again I7 n7
  |cont=>obtain ⟨σ7,H7,I7,n7⟩:=q7;exact again I7 n7
  |brk=>obtain ⟨σ7,H7,I7,q7⟩:=q7;exact ⟨σ7,H7,I7.unpinned,q7⟩
  |ret v=>obtain ⟨x7,σ7,H7,I7,r7,q7⟩:=q7;exact ⟨x7,σ7,H7,I7.unpinned,r7,q7⟩
end
end L2
namespace L2
open PySem PySem.Spec PyProof.Rows
abbrev R2:=V->V->Hp->VK->Prop
def OpR (X:Cx) (f:Value->Value->Sem Value) (r:R2):Prop:=
 ∀(pins:List (Addr×Obj)) (s:Shared) (σ:St) (H:Hp) (x y:V) (v u:Value) (Q:VK),Inv X pins σ H s->RelV x v->RelV y u->r x y H Q->
  wpAny (model X.prog X.w) X.A (f v u) (EP X pins σ Q) X.xe s
def UnR (X:Cx) (f:Value->Sem Value) (r:V->Hp->VK->Prop):Prop:=
 ∀(pins:List (Addr×Obj)) (s:Shared) (σ:St) (H:Hp) (x:V) (v:Value) (Q:VK),Inv X pins σ H s->RelV x v->r x H Q->
  wpAny (model X.prog X.w) X.A (f v) (EP X pins σ Q) X.xe s
def Gp (X:Cx) (f:Value) (r:List V->Hp->VK->Prop):Prop:=
 ∀(pins:List (Addr×Obj)) (s:Shared) (σ:St) (H:Hp) (xs:List V) (us:List Value) (Q:VK),Inv X pins σ H s->AS xs us->r xs H Q->
  wpAny (model X.prog X.w) X.A (call f us) (EP X pins σ Q) X.xe s
def Yu (X:Cx) (r:V->Hp->(Bool->Hp->Prop)->Prop):Prop:=
 ∀(pins:List (Addr×Obj)) (s:Shared) (σ:St) (H:Hp) (x:V) (v:Value) (Q:Bool->Hp->Prop),Inv X pins σ H s->RelV x v->r x H Q->
  wpAny (model X.prog X.w) X.A (truthy v) (TP X pins σ Q) X.xe s
def tOp (r:R2) (ta tb:TE):TE:=fun σ H Q=>ta σ H fun x H1=>tb σ H1 fun y H2=>r x y H2 Q
def tUn (r:V->Hp->VK->Prop) (ta:TE):TE:=fun σ H Q=>ta σ H fun x H1=>r x H1 Q
def rI (C:Int->Int->Prop) (g:Int->Int->V):R2:=fun x y H Q=>∃i j,x=.int i/\y=.int j/\C i j/\Q (g i j) H
def rI0 (g:Int->Int->V):R2:=fun x y H Q=>∃i j,x=.int i/\y=.int j/\Q (g i j) H
def rU (g:Int->V):V->Hp->VK->Prop:=fun x H Q=>∃i,x=.int i/\Q (g i) H
section
variable {X:Cx} {a b c:Expr} {ta tb tc:TE} {pos:Pos}
theorem WY (ha:PE X a ta) (hb:PE X b tb) {pins:List (Addr×Obj)} {s:Shared} {σ:St} {H:Hp} {R:V->V->Hp->Prop} (I:Inv X pins σ H s)
  (h:ta σ H fun x H1=>tb σ H1 fun y H2=>R x y H2) {Q:Value->Shared->Prop} {f:Value->Value->Sem Value}
  (hf:∀v u s2 x y H2,Inv X pins σ H2 s2->RelV x v->RelV y u->R x y H2->wpAny (model X.prog X.w) X.A (f v u) Q X.xe s2):
  wpAny (model X.prog X.w) X.A (eval a X.env) (fun v s₁=>wpAny (model X.prog X.w) X.A (eval b X.env) (fun u s₂=>wpAny (model X.prog X.w) X.A (f v u) Q X.xe s₂) X.xe s₁) X.xe s:=by
 refine thn (ha pins s σ H _ I h) fun v s1 ⟨x,H1,I1,r1,q1⟩=>?_
 refine thn (hb pins s1 σ H1 _ I1 q1) fun u s2 ⟨y,H2,I2,r2,q2⟩=>?_
 exact hf v u s2 x y H2 I2 r1 r2 q2
theorem As {op:Operator} {r:R2} (ho:OpR X (binaryOp op) r) (ha:PE X a ta) (hb:PE X b tb):PE X (.BinOp a op b pos) (tOp r ta tb):=by
 intro pins s σ H Q I h
 exact wpAny_BinOp (WY ha hb I h fun v u s2 x y H2 I2 rx ry q=>ho pins s2 σ H2 x y v u Q I2 rx ry q)
theorem OT {op:UnaryOp} {r:V->Hp->VK->Prop} (ho:UnR X (unaryOp op) r) (ha:PE X a ta):PE X (.UnaryOp op a pos) (tUn r ta):=by
 intro pins s σ H Q I h
 exact UnaryOp_ (thn (ha pins s σ H _ I h) fun v s1 ⟨x,H1,I1,r1,q1⟩=>ho pins s1 σ H1 x v Q I1 r1 q1)
theorem Xn {f:Value->Value->Sem Value} {g:Int->Int->Int}
  (rule:∀(i j:Int) (t u:Tok) (s:Shared) (Q:Value->Shared->Prop) (E:Value->Shared->Prop),Q (.int (g i j) s.toks) {s with toks:=s.toks+1}->wpAny (model X.prog X.w) X.A (f (.int i t) (.int j u)) Q E s):
  OpR X f (rI0 fun i j=>.int (g i j)):=by
 intro pins s σ H x y v u Q I rx ry h
 obtain ⟨i,j,rfl,rfl,q⟩:=h
 obtain ⟨t,rfl⟩:=rx
 obtain ⟨t',rfl⟩:=ry
 exact rule i j t t' s _ _ ⟨.int (g i j),H,I.tok _,⟨_,rfl⟩,q⟩
theorem U4 {f:Value->Value->Sem Value} {g:Int->Int->Bool}
  (rule:∀(i j:Int) (t u:Tok) (s:Shared) (Q:Value->Shared->Prop) (E:Value->Shared->Prop),Q (.bool (g i j)) s->wpAny (model X.prog X.w) X.A (f (.int i t) (.int j u)) Q E s):
  OpR X f (rI0 fun i j=>.bl (g i j)):=by
 intro pins s σ H x y v u Q I rx ry h
 obtain ⟨i,j,rfl,rfl,q⟩:=h
 obtain ⟨t,rfl⟩:=rx
 obtain ⟨t',rfl⟩:=ry
 exact rule i j t t' s _ _ ⟨.bl (g i j),H,I,rfl,q⟩
theorem Bk:OpR X (binaryOp .Add) (rI0 fun i j=>.int (i+j)):=Xn fun _ _ _ _ _ _ _ q=>add_int q
theorem Ia:OpR X (binaryOp .Sub) (rI0 fun i j=>.int (i - j)):=Xn fun _ _ _ _ _ _ _ q=>sub_int q
theorem unI {f:Value->Sem Value} {g:Int->Int}
  (rule:∀(i:Int) (t:Tok) (s:Shared) (Q:Value->Shared->Prop) (E:Value->Shared->Prop),Q (.int (g i) s.toks) {s with toks:=s.toks+1}->wpAny (model X.prog X.w) X.A (f (.int i t)) Q E s):
  UnR X f (rU fun i=>.int (g i)):=by
 intro pins s σ H x v Q I rx h
 obtain ⟨i,rfl,q⟩:=h
 obtain ⟨t,rfl⟩:=rx
 exact rule i t s _ _ ⟨.int (g i),H,I.tok _,⟨_,rfl⟩,q⟩
theorem M0:UnR X (unaryOp .USub) (rU fun i=>.int (-i)):=unI fun _ _ _ _ _ q=>neg_int q
end
section
variable {X:Cx} {a b c:Expr} {ta tb tc:TE} {pos:Pos}
theorem Qs:OpR X (compareOp .Lt) (rI0 fun i j=>.bl (decide (i<j))):=U4 fun _ _ _ _ _ _ _ q=>lt_int q
theorem CN:OpR X (compareOp .LtE) (rI0 fun i j=>.bl (decide (i<=j))):=U4 fun _ _ _ _ _ _ _ q=>le_int q
theorem UJ:OpR X (compareOp .Gt) (rI0 fun i j=>.bl (decide (j<i))):=U4 fun _ _ _ _ _ _ _ q=>gt_int q
theorem Uq:OpR X (compareOp .GtE) (rI0 fun i j=>.bl (decide (j<=i))):=U4 fun _ _ _ _ _ _ _ q=>ge_int q
theorem DI (b:Expr) {op:CmpOp} (h:op≠.In:=by decide) (h2:op≠.NotIn:=by decide):behindInMarks op b=false:=by
 have e1:(op==CmpOp.In)=false:=by cases op<;>first|rfl|exact absurd rfl h
 have e2:(op==CmpOp.NotIn)=false:=by cases op<;>first|rfl|exact absurd rfl h2
 cases b<;>simp[behindInMarks,e1,e2]
theorem Jy {op:CmpOp} {r:R2} (ho:OpR X (compareOp op) r) (ha:PE X a ta) (hb:PE X b tb) (hm:behindInMarks op b=false):PE X (.Compare a [op] [b] pos) (tOp r ta tb):=by
 intro pins s σ H Q I h
 exact wpAny_Compare1 (WY ha hb I h fun v u s2 x y H2 I2 rx ry q=>ho pins s2 σ H2 x y v u Q I2 rx ry q) hm
def O6 (t:TE):TT:=fun σ H Q=>t σ H fun x H'=>∃k,x=.bl k/\Q k H'
theorem BZ {op:CmpOp} {r:R2} (ho:OpR X (compareOp op) r) (ha:PE X a ta) (hb:PE X b tb) (hm:behindInMarks op b=false):PT X (.Compare a [op] [b] pos) (O6 (tOp r ta tb)):=by
 intro pins s σ H Q I h
 refine wpAny_isTrue_Compare1 (thn (ha pins s σ H _ I h) fun v s1 ⟨x,H1,I1,r1,q1⟩=>thn (hb pins s1 σ H1 _ I1 q1) fun u s2 ⟨y,H2,I2,r2,q2⟩=>
  thn (ho pins s2 σ H2 x y v u _ I2 r1 r2 q2) fun c s3 ⟨z,H3,I3,r3,k,e,q3⟩=>?_) hm
 subst e
 cases r3
 exact wpAny_truthy_bool ⟨H3,I3,q3⟩
def Ld (r r':R2) (ta tb tc:TE):TE:=fun σ H Q=>ta σ H fun x H1=>tb σ H1 fun y H2=>r x y H2 fun z H3=>∃k,z=.bl k/\
 (if k=true then tc σ H3 fun w' H4=>r' y w' H4 Q else Q (.bl false) H3)
theorem Rt {op op':CmpOp} {r r':R2} (ho:OpR X (compareOp op) r) (ho':OpR X (compareOp op') r') (ha:PE X a ta) (hb:PE X b tb) (hc:PE X c tc)
  (hm:lastMarks [op,op'] [b,c]=false:=by with_unfolding_all rfl):PE X (.Compare a [op,op'] [b,c] pos) (Ld r r' ta tb tc):=by
 intro pins s σ H Q I h
 refine Compare_chain (thn (ha pins s σ H _ I h) fun v s1 ⟨x,H1,I1,r1,q1⟩=>chain_link (thn (hb pins s1 σ H1 _ I1 q1) fun u s2 ⟨y,H2,I2,r2,q2⟩=>
  thn (ho pins s2 σ H2 x y v u _ I2 r1 r2 q2) fun d s3 ⟨z,H3,I3,r3,k,e,q3⟩=>?_)) hm
 subst e
 cases r3
 refine wpAny_truthy_bool ?_
 cases k with
 |false=>exact ite_ff ⟨.bl false,H3,I3,rfl,q3⟩
 |true=>exact ite_tt (chain_last (thn (hc pins s3 σ H3 _ I3 q3) fun w' s4 ⟨z',H4,I4,r4,q4⟩=>ho' pins s4 σ H4 y z' u w' Q I4 r2 r4 q4))
theorem Ej {op op':CmpOp} {r r':R2} (ho:OpR X (compareOp op) r) (ho':OpR X (compareOp op') r') (ha:PE X a ta) (hb:PE X b tb) (hc:PE X c tc)
  (hm:lastMarks [op,op'] [b,c]=false:=by with_unfolding_all rfl):PT X (.Compare a [op,op'] [b,c] pos) (O6 (Ld r r' ta tb tc)):=by
 intro pins s σ H Q I h
 refine isTrue_chain (thn (ha pins s σ H _ I h) fun v s1 ⟨x,H1,I1,r1,q1⟩=>test_link (thn (hb pins s1 σ H1 _ I1 q1) fun u s2 ⟨y,H2,I2,r2,q2⟩=>
  thn (ho pins s2 σ H2 x y v u _ I2 r1 r2 q2) fun d s3 ⟨z,H3,I3,r3,k,e,q3⟩=>?_)) hm
 subst e
 cases r3
 refine wpAny_truthy_bool ?_
 cases k with
 |false=>
  obtain ⟨k',e',q'⟩:=q3
  cases e'
  exact ite_ff ⟨H3,I3,q'⟩
 |true=>
  refine ite_tt (test_last (thn (hc pins s3 σ H3 _ I3 q3) fun w' s4 ⟨z',H4,I4,r4,q4⟩=>thn (ho' pins s4 σ H4 y z' u w' _ I4 r2 r4 q4) fun d' s5 ⟨z2,H5,I5,r5,k2,e2,q5⟩=>?_))
  subst e2
  cases r5
  exact wpAny_truthy_bool ⟨H5,I5,q5⟩
def YI (K:PySem.W.Frag) (x:V) (H:Hp) (k:Bool):Prop:=
 match x with
 |.non=>k=false
 |.bl b=>k=b
 |.int i=>k=(i !=0)
 |.str y=>y.length<=sizeLine/\k=((y.length:Int) !=0)
 |.byt y=>y.size<=sizeLine/\k=((y.size:Int) !=0)
 |.ref p=>(∃xs,SqL K H p xs/\k=!xs.isEmpty)\/(∃xs,SqT K H p xs/\k=!xs.isEmpty)\/∃kvs,H p=some (.dK kvs)/\k=!kvs.isEmpty
 |_=>False
theorem UA {κ:Type} {kvs:List (κ×V)} {vs:List (κ×Value)} (r:KV kvs vs):(!vs.isEmpty)=!kvs.isEmpty:=by
 cases r<;>rfl
theorem ON {xs:List V} {its:List Value} (r:AS xs its):(!its.toArray.isEmpty)=!xs.isEmpty:=by
 cases r<;>simp
theorem M5:(sizeLine:Nat)<2 ^ 63:=by rw[sizeLine_eq];decide
theorem Xq:Yu X (fun x H Q=>∃k,YI X.K x H k/\Q k H):=by
 intro pins s σ H x v Q I rx h
 obtain ⟨k,e,q⟩:=h
 have hl:=M5
 have hs:sizeLine=16777216:=sizeLine_eq
 cases x with
 |non=>
  cases rx
  have e':k=false:=e
  subst e'
  exact truthy_none ⟨H,I,q⟩
 |bl b=>
  cases rx
  have e':k=b:=e
  subst e'
  exact wpAny_truthy_bool ⟨H,I,q⟩
 |int i=>
  obtain ⟨t,rfl⟩:=rx
  have e':k=(i !=0):=e
  subst e'
  exact PySem.P.truthy_int ⟨H,I,q⟩
 |str y=>
  obtain ⟨t,rfl⟩:=rx
  obtain ⟨hy,e'⟩:y.length<=sizeLine/\k=((y.length:Int) !=0):=e
  subst e'
  exact PySem.P.truthy_str (by omega) ⟨H,I.tok _,q⟩
 |byt y=>
  obtain ⟨t,rfl⟩:=rx
  obtain ⟨hy,e'⟩:y.size<=sizeLine/\k=((y.size:Int) !=0):=e
  subst e'
  exact PySem.W.truthy_bytes (by omega) ⟨H,I.tok _,q⟩
 |ref p=>
  cases rx
  have e':(∃xs,SqL X.K H p xs/\k=!xs.isEmpty)\/(∃xs,SqT X.K H p xs/\k=!xs.isEmpty)\/∃kvs,H p=some (.dK kvs)/\k=!kvs.isEmpty:=e
  rcases e' with ⟨xs,hx,e'⟩|⟨xs,hx,e'⟩|⟨kvs,hx,e'⟩
  ·subst e'
   obtain ⟨its,r,pl,hz⟩:=I.list hx
   have hlen:=r.length
   exact wpAny_truthy_list pl.isList (by simp only[List.size_toArray];omega) ⟨H,I.tok _,by rw[ON r];exact q⟩
  ·subst e'
   obtain ⟨its,r,pl,hz⟩:=I.tuple hx
   have hlen:=r.length
   exact truthy_tuple pl (by simp only[List.size_toArray];omega) ⟨H,I.tok _,by rw[ON r];exact q⟩
  ·subst e'
   obtain ⟨hz,hS,vs,r,m⟩:kvs.length<=sizeLine/\(p==sysModules)=false/\∃vs,KV kvs vs/\s.heap.DictOf (B3 X.prog X.w) p vs:=I.hok p _ hx
   have hlen:kvs.length=vs.length:=Paired.length r
   exact wpAny_truthy_dict hS m (by omega) ⟨H,I.tok _,by rw[UA r];exact q⟩
 |_=>exact (show False from e).elim
theorem S4 (ha:PE X a ta) (he:∀whole,isTrue a X.env whole=(do let v <-whole;standAt a.pos;holding [v] (truthy v))):
  PT X a (fun σ H Q=>ta σ H fun x H'=>∃k,YI X.K x H' k/\Q k H'):=by
 intro pins s σ H Q I h
 exact isTrue_plain (thn (ha pins s σ H _ I h) fun v s1 ⟨x,H1,I1,r1,q1⟩=>Xq pins s1 σ H1 x v Q I1 r1 q1) (he _)
theorem vals1 {x:V} {us:List Value} (r:AS [x] us):∃u,us=[u]/\RelV x u:=by
 cases r with
 |cons r1 r2=>cases r2;exact ⟨_,rfl,r1⟩
end
end L2
namespace L2
open PySem PySem.Spec PyProof.Rows
structure NH (h:Heap) (x dx C:Addr) (mA:Str->Option Value):Prop where
 obj:h.get? x=some (PySem.W.instObj C dx)
 ns:h.Ns1 dx mA
 ne:dx≠x
theorem Vi {h:Heap} {dx:Addr} {mA:Str->Option Value} (n:h.Ns1 dx mA):∃od,h.get? dx=some od/\∀name,PySem.W.lookIn name od=some (mA name):=by
 obtain ⟨o,es,ep,ho,hd,hk,_,hm⟩:=n
 refine ⟨o,ho,fun name=>?_⟩
 have e:=hm name
 unfold nsFind findBy at e
 rw[<-Array.find?_toList]at e
 unfold PySem.W.lookIn
 rw[hd]
 dsimp only
 split
 ·rename_i y q
  rw[q]at e
  exact congrArg some e
 ·rename_i q
  rw[q]at e
  have a:es.toList.any (·.refKey)=false:=by
   rw[List.any_eq_false]
   intro y hy
   obtain ⟨z,t,hkey⟩:=hk y (Array.mem_toList_iff.mp hy)
   simp[DictEntry.refKey,hkey]
  have a':¬es.toList.any (·.refKey)=true:=by rw[a];exact Bool.false_ne_true
  rw[if_neg a']
  exact congrArg some e
theorem NH.look {h:Heap} {x dx C:Addr} {mA:Str->Option Value} (I:NH h x dx C mA):∃od,PySem.W.InstAt h x (PySem.W.instObj C dx) C (some od)/\∀name,PySem.W.lookIn name od=some (mA name):=
 let ⟨od,ho,hl⟩:=Vi I.ns
 ⟨od,⟨I.obj,rfl,rfl,ho⟩,hl⟩
section
variable {prog:Program} {w:World} {A:Around} {E:Value->Shared->Prop} {s:Shared} {K:PySem.W.Frag} {x dx C f:Addr} {mA:Str->Option Value} {name:Str} {v:Value}
theorem XR {expr:Bool} {Q:Value->Shared->Prop} (X:K.In s.heap) (I:NH s.heap x dx C mA) (hg:PySem.W.plainGet K C name=true) (hh:PySem.W.hasDictIn K C=true)
  (ha:PySem.W.findIn K (.ref C) name=some none) (hv:mA name=some v) (hv':PySem.W.handedIn v=true) (h:Q v {s with toks:=s.toks+1}):
  wpAny (model prog w) A (getAttr (.ref x) name expr) Q E s:=by
 obtain ⟨od,J,hl⟩:=I.look
 exact PySem.W.get_value X J (PySem.W.plainGet_of hg).1 (PySem.W.findObj_own hh ha rfl (by rw[hl,hv])) hv' h
theorem W6 {pl:Sem Bool} {Q:Value×List Value->Shared->Prop} (X:K.In s.heap) (I:NH s.heap x dx C mA) (hg:PySem.W.plainGet K C name=true)
  (hf:PySem.W.findIn K (.ref C) name=some (some (.ref f))) (ht:PySem.W.isFn K (.ref f)=true) (hv:mA name=none) (h:Q (.ref f,[.ref x]) s):
  wpAny (model prog w) A (getMethod (.ref x) name pl) Q E s:=by
 obtain ⟨od,J,hl⟩:=I.look
 exact PySem.W.method_fn X J (PySem.W.plainGet_of hg).1 (PySem.W.plainGet_of hg).2 hf (beq_iff_eq.mp ht) (by show (PySem.W.lookIn name od).map (·.isSome)=some false;rw[hl,hv];rfl) h
theorem X5 {ns:List Str} {Q:Unit->Shared->Prop} (X:K.In s.heap) (I:NH s.heap x dx C mA)
  (hs:PySem.W.findIn K (.ref C) "__setattr__"=some (some (.builtin "object.__setattr__"))) (hp:PySem.W.plainOver K C=true) (ht:PySem.W.takerIn K C name=some none) (hh:PySem.W.hasDictIn K C=true)
  (hw:PySem.Within mA ns) (hsz:ns.length<=sizeLine)
  (h:∀h',NH h' x dx C (fun y=>if y=name then some v else mA y)->Heap.SameBut dx s.heap h'->Q () {s with heap:=h',toks:=s.toks+2}):
  wpAny (model prog w) A (setAttr (.ref x) name v) Q E s:=by
 obtain ⟨od,J,hl⟩:=I.look
 refine PySem.W.set_plain X J hs (PySem.W.osa_open (s:={s with toks:=s.toks+1}) (r:=none) X J hp ht fun b=>?_)
 obtain ⟨cd,hc,hd'⟩:=PySem.W.any_some hh
 have hx:s.heap.get? x=some ⟨.ref C,some dx,.plain,#[]⟩:=I.obj
 refine wpAny_bind (wpAny_pure (wpAny_bind (wpAny_bind (wpAny_loadPart hx (wpAny_bind (PySem.W.Looks.here (s:={s with toks:=s.toks+1}) (PySem.W.looks_clsIn X hc) ?_))))))
 rw[hd']
 refine wpAny_pure (a:=some dx) (wpAny_bind (wpAny_pure (wpAny_bind ?_)))
 refine wpAny_nsSet1 (s:={s with toks:=s.toks+1}) I.ns fun h' hn2 hs2=>?_
 obtain ⟨oD,esD,epD,hoD,hdD,hcD⟩:=hn2.count (PySem.Within.cons name v hw)
 refine wpAny_bind (wpAny_lookBehind hoD (by rw[hdD];exact pastItsLine_dict (Nat.le_trans hcD (by rw[List.length_cons];omega))) ?_)
 exact wpAny_pure (h _ ⟨(hs2.2 _ (Ne.symm I.ne)).trans I.obj,hn2,I.ne⟩ hs2)
theorem WZ {R:Result->Shared->Prop} {vs:List Value} {kw:List (Str×Value)} (X:K.In s.heap) (hm:PySem.W.makesIn K C=true)
  (hi:PySem.W.findIn K (.ref C) "__init__"=some (some (.ref f))) (hf:PySem.W.typeIn K (.ref f)=some (.type "function"))
  (h:codeAny (model prog w) (A.under (.builtin "type.__call__" ⟨.ref C::vs,kw⟩)) (.call (.ref f) ⟨.ref (s.heap.objs.size+1)::vs,kw⟩) (PySem.W.InitBack (s.heap.objs.size+1) R)
   {s with heap:=(s.heap.push PySem.W.emptyDict).push (PySem.W.instObj C s.heap.objs.size)}):
  codeAny (model prog w) A (.call (.ref C) ⟨vs,kw⟩) R s:=by
 obtain ⟨hh,g,d,t,os⟩:=s
 exact PySem.W.make_core (PySem.W.makes_of X hm) (PySem.W.looks_findIn X hi) (fun self=>PySem.W.bind_fn X self hf) (.inl rfl) h
end
def AW (f:Str) (v:V):List (Str×V)->List (Str×V)
 |[]=>[(f,v)]
 |(g,x)::r=>if g=f then (g,v)::r else (g,x)::AW f v r
theorem B8 (f g:Str) (v:V):∀fs:List (Str×V),(AW f v fs).lookup g=if g=f then some v else fs.lookup g
 |[]=>by
  show List.lookup g [(f,v)]=_
  by_cases h:g=f
  ·have hb:(g==f)=true:=beq_iff_eq.mpr h
   simp only[List.lookup,hb,if_pos h]
  ·have hb:(g==f)=false:=beq_eq_false_iff_ne.mpr h
   simp only[List.lookup,hb,if_neg h]
 |(k,x)::r=>by
  have ih:=B8 f g v r
  rw[show AW f v ((k,x)::r)=(if k=f then (k,v)::r else (k,x)::AW f v r) from rfl]
  by_cases hk:k=f
  ·rw[if_pos hk]
   by_cases h:g=k
   ·have hb:(g==k)=true:=beq_iff_eq.mpr h
    simp only[List.lookup,hb,if_pos (h.trans hk)]
   ·have hb:(g==k)=false:=beq_eq_false_iff_ne.mpr h
    simp only[List.lookup,hb,if_neg (fun e:g=f=>h (e.trans hk.symm))]
  ·rw[if_neg hk]
   by_cases h:g=k
   ·have hb:(g==k)=true:=beq_iff_eq.mpr h
    simp only[List.lookup,hb,if_neg (fun e:g=f=>hk (h.symm.trans e))]
   ·have hb:(g==k)=false:=beq_eq_false_iff_ne.mpr h
    simp only[List.lookup,hb]
    exact ih
theorem Lr (f:Str) (v:V):∀fs:List (Str×V),f∈(AW f v fs).map (·.1)/\∀g,g∈fs.map (·.1)->g∈(AW f v fs).map (·.1)
 |[]=>⟨by simp[AW],fun g h=>by simp at h⟩
 |(k,x)::r=>by
  obtain ⟨i1,i2⟩:=Lr f v r
  rw[show AW f v ((k,x)::r)=(if k=f then (k,v)::r else (k,x)::AW f v r) from rfl]
  by_cases hk:k=f
  ·rw[if_pos hk]
   subst hk
   exact ⟨by simp,fun g h=>by simpa using h⟩
  ·rw[if_neg hk]
   refine ⟨?_,fun g h=>?_⟩
   ·rw[List.map_cons]
    exact List.mem_cons_of_mem _ i1
   ·rw[List.map_cons]at h ⊢
    rcases List.mem_cons.mp h with e|e
    ·exact List.mem_cons.mpr (.inl e)
    ·exact List.mem_cons_of_mem _ (i2 g e)
theorem Mf (f:Str) (v:V):∀fs:List (Str×V),(AW f v fs).length<=fs.length+1
 |[]=>by simp[AW]
 |(k,x)::r=>by
  have ih:=Mf f v r
  rw[show AW f v ((k,x)::r)=(if k=f then (k,v)::r else (k,x)::AW f v r) from rfl]
  by_cases hk:k=f
  ·rw[if_pos hk,List.length_cons,List.length_cons];omega
  ·rw[if_neg hk,List.length_cons,List.length_cons];omega
theorem Ds.some_of {v:V} {o:Option Value} (r:Ds (some v) o):∃u,o=some u/\RelV v u:=by
 cases o with
 |none=>exact (show False from r).elim
 |some u=>exact ⟨u,rfl,r⟩
theorem Ds.none_of {o:Option Value} (r:Ds none o):o=none:=by
 cases o with
 |none=>rfl
 |some u=>exact (show False from r).elim
theorem Vb {v:V} {u:Value} (r:RelV v u):PySem.W.handedIn u=true:=by
 cases v with
 |non=>cases (show u=Value.none from r);rfl
 |bl b=>cases (show u=Value.bool b from r);rfl
 |int i=>obtain ⟨t,e⟩:=(show ∃t,u=Value.int i t from r);cases e;rfl
 |str x=>obtain ⟨t,e⟩:=(show ∃t,u=Value.str x t from r);cases e;rfl
 |byt b=>obtain ⟨t,e⟩:=(show ∃t,u=Value.bytes b t from r);cases e;rfl
 |flt b=>obtain ⟨t,e⟩:=(show ∃t,u=Value.float b t from r);cases e;rfl
 |ref a=>cases (show u=Value.ref a from r);rfl
 |ty n=>cases (show u=Value.type n from r);rfl
section
variable {P:Program} {w:World} {H H':Hp} {h h':Heap} {a C dx:Addr} {fs fs':List (Str×V)}
theorem PF (hok:HOk P w H h) (e:H a=some (.ins C dx fs)):∃mA,NH h a dx C mA/\(∀f,Ds (fs.lookup f) (mA f))/\PySem.Within mA (fs.map (·.1))/\fs.length<=1000/\H dx=some (.own a):=by
 obtain ⟨d,z,ne,ob,mA,n,r,q⟩:=(show BV P w H h a (.ins C dx fs) from hok a _ e)
 exact ⟨mA,⟨ob,n,ne⟩,r,q,z,d⟩
end
structure Cls (K:PySem.W.Frag) (C:Addr):Prop where
 pg:PySem.W.plainGet K C Str.empty=true
 hd:PySem.W.hasDictIn K C=true
 po:PySem.W.plainOver K C=true
 sa:PySem.W.findIn K (.ref C) "__setattr__"=some (some (.builtin "object.__setattr__"))
theorem Cls.get {K:PySem.W.Frag} {C:Addr} (c:Cls K C) (f:Str):PySem.W.plainGet K C f=true:=c.pg
def B7 (K:PySem.W.Frag) (C:Addr) (f:Str):Prop:=PySem.W.findIn K (.ref C) f=some none
theorem B7.taker {K:PySem.W.Frag} {C:Addr} {f:Str} (n:B7 K C f):PySem.W.takerIn K C f=some none:=by
 unfold PySem.W.takerIn
 rw[show PySem.W.findIn K (.ref C) f=some none from n]
 rfl
structure Con (K:PySem.W.Frag) (C:Addr) (f:Str) (v:V) (u:Value):Prop where
 at_:PySem.W.findIn K (.ref C) f=some (some u)
 rel:RelV v u
 get:PySem.W.specialIn K u "__get__"=some none
 cp:PySem.W.copiedNames.contains f=false
structure PN (K:PySem.W.Frag) (C:Addr) (m:Str) (f:Addr):Prop where
 at_:PySem.W.findIn K (.ref C) m=some (some (.ref f))
 fn:PySem.W.isFn K (.ref f)=true
 kp:PySem.W.keepIn K (.ref f)=true
section
variable {X:Cx} {pins:List (Addr×Obj)} {σ:St} {H:Hp} {s:Shared} {a C dx:Addr} {fs:List (Str×V)} {f:Str} {v:V} {A:Around} {E:Value->Shared->Prop}
theorem U7 {b:Bool} {Q:Value->Shared->Prop} (I:Inv X pins σ H s) (e:H a=some (.ins C dx fs)) (c:Cls X.K C) (n:B7 X.K C f) (l:fs.lookup f=some v)
  (h:∀u s',Inv X pins σ H s'->RelV v u->Q u s'):wpAny (model X.prog X.w) A (getAttr (.ref a) f b) Q E s:=by
 obtain ⟨mA,O,r,_,_,_⟩:=PF I.hok e
 obtain ⟨u,hu,ru⟩:=Ds.some_of (v:=v) (o:=mA f) (by rw[<-l];exact r f)
 exact XR I.kIn O (c.get f) c.hd n hu (Vb ru) (h u _ (I.tok _) ru)
theorem Kf {m:Str} {g:Addr} {pl:Sem Bool} {Q:Value×List Value->Shared->Prop} (I:Inv X pins σ H s) (e:H a=some (.ins C dx fs)) (c:Cls X.K C) (k:PN X.K C m g) (l:fs.lookup m=none)
  (h:Q (.ref g,[.ref a]) s):wpAny (model X.prog X.w) A (getMethod (.ref a) m pl) Q E s:=by
 obtain ⟨mA,O,r,_,_,_⟩:=PF I.hok e
 have hn:mA m=none:=Ds.none_of (by rw[<-l];exact r m)
 exact W6 I.kIn O (c.get m) k.at_ k.fn hn h
theorem UC {y:V} {u:Value} {Q:Unit->Shared->Prop} (I:Inv X pins σ H s) (e:H a=some (.ins C dx fs)) (c:Cls X.K C) (n:B7 X.K C f) (hl:fs.length<1000) (ry:RelV y u)
  (h:∀s',Inv X pins σ (upd H a (.ins C dx (AW f y fs))) s'->Q () s'):wpAny (model X.prog X.w) A (setAttr (.ref a) f u) Q E s:=by
 obtain ⟨mA,O,r,wi,_,ho⟩:=PF I.hok e
 have hz:(fs.map (·.1)).length<=sizeLine:=by rw[List.length_map,sizeLine_eq];omega
 refine X5 I.kIn O c.sa c.po n.taker c.hd wi hz fun h' O' sb=>h _ ?_
 have hd:∃o,h'.get? dx=some o:=let ⟨o,_,_,e',_⟩:=O'.ns;⟨o,e'⟩
 refine I.write (x:=a) (e:=dx) (by rw[e];exact True.intro) (.inr ho) (fun b q hb z=>(sb.2 b hb).trans z) hd ?_
 refine ⟨by rw[A8 O.ne];exact ho,?_,O.ne,O'.obj,_,O'.ns,fun g=>?_,fun g hg=>?_⟩
 ·have:=Mf f y fs;omega
 ·show Ds ((AW f y fs).lookup g) (if g=f then some u else mA g)
  rw[B8]
  by_cases q:g=f
  ·rw[if_pos q,if_pos q];exact ry
  ·rw[if_neg q,if_neg q];exact r g
 ·by_cases q:g=f
  ·rw[q];exact (Lr f y fs).1
  ·refine (Lr f y fs).2 g (wi g fun z=>hg ?_)
   show (if g=f then some u else mA g)=none
   rw[if_neg q];exact z
theorem Inv.made (I:Inv X pins σ H s):Inv X pins σ (upd (upd H s.heap.objs.size (.own (s.heap.objs.size+1))) (s.heap.objs.size+1) (.ins C s.heap.objs.size []))
  {s with heap:=(s.heap.push PySem.W.emptyDict).push (PySem.W.instObj C s.heap.objs.size)}:=by
 have e1:(s.heap.push PySem.W.emptyDict).get? s.heap.objs.size=some PySem.W.emptyDict:=Heap.get?_push_size s.heap rfl
 have e2:((s.heap.push PySem.W.emptyDict).push (PySem.W.instObj C s.heap.objs.size)).get? (s.heap.objs.size+1)=some (PySem.W.instObj C s.heap.objs.size):=by
  have:=Heap.get?_push_size (s.heap.push PySem.W.emptyDict) (o:=PySem.W.instObj C s.heap.objs.size) rfl
  rwa [Heap.size_push]at this
 have e3:(s.heap.push PySem.W.emptyDict).Ns s.heap.objs.size (fun _=>none):=⟨PySem.W.emptyDict,#[],_,e1,rfl,(fun e he=>absurd he (by simp)),fun _=>rfl⟩
 have I1:=I.laid (a:=s.heap.objs.size) (o:=.own (s.heap.objs.size+1)) (h':=s.heap.push PySem.W.emptyDict) (t':=s.toks) (fun b u q=>Heap.get?_push_of_some _ q) (Nat.le_refl _) ⟨_,e1⟩
 refine I1.laid (a:=s.heap.objs.size+1) (o:=.ins C s.heap.objs.size []) (t':=s.toks) (fun b u q=>Heap.get?_push_of_some _ q) (Nat.le_of_eq (Heap.size_push _ _)) ?_
 have ne:s.heap.objs.size≠s.heap.objs.size+1:=Nat.ne_of_lt (Nat.lt_succ_self _)
 refine ⟨by rw[A8 ne,A4],Nat.zero_le _,ne,e2,fun _=>none,(Heap.Ns1.of_empty e3).at fun o q=>Heap.get?_push_of_some _ q,fun _=>True.intro,fun y hy=>absurd rfl hy⟩
theorem X7 {prog:Program} {w:World} {env:Env} {e:Expr} {f:Str} {pos:Pos} {s:Shared} {Q:Value->Shared->Prop} (hb:attributeBase e f env (eval e env)=eval e env)
  (h:wpAny (model prog w) A (eval e env) (fun o s₁=>wpAny (model prog w) A (getAttr o f true) Q E s₁) E s):wpAny (model prog w) A (eval (.Attribute e f pos) env) Q E s:=
 Attribute_any_ h (by rw[arm_eval_Attribute,hb])
end
def S1 (K:PySem.W.Frag) (ta:TE) (f:Str):TE:=fun σ H Q=>ta σ H fun x H1=>∃a C dx fs v,x=.ref a/\H1 a=some (.ins C dx fs)/\Cls K C/\B7 K C f/\fs.lookup f=some v/\Q v H1
def Um (K:PySem.W.Frag) (ta tv:TE) (f:Str):TS:=fun D σ H=>tv σ H fun y H1=>ta σ H1 fun x H2=>∃a C dx fs,x=.ref a/\H2 a=some (.ins C dx fs)/\Cls K C/\B7 K C f/\fs.length<1000/\
 D.nx σ (upd H2 a (.ins C dx (AW f y fs)))
section
variable {X:Cx} {o e value:Expr} {f:Str} {pos pos' tpos:Pos} {ta tv:TE}
theorem AY (he:PE X e ta) (hb:attributeBase e f X.env (eval e X.env)=eval e X.env):PE X (.Attribute e f pos) (S1 X.K ta f):=by
 intro pins s σ H Q I h
 refine X7 hb (thn (he pins s σ H _ I h) fun u s1 ⟨x,H1,I1,rx,a,C,dx,fs,v,ex,ea,c,n,l,q⟩=>?_)
 subst ex
 obtain rfl:u=Value.ref a:=rx
 exact U7 I1 ea c n l fun u' s2 I2 ru=>⟨v,H1,I2,ru,q⟩
theorem FC (ha:PE X o ta) (hv:PE X value tv) (hs:swapsWith value (some (.Attribute o f pos')) pos.line X.env=pure false):PS X (.Assign [.Attribute o f pos'] value pos) (Um X.K ta tv f):=by
 intro pins s σ H D I h
 refine plainObj_wpAny_Assign_Attribute (thn (hv pins s σ H _ I h) fun u s1 ⟨y,H1,I1,ry,q⟩=>thn (ha pins s1 σ H1 _ I1 q) fun ov s2 ⟨x,H2,I2,rx,a,C,dx,fs,ex,ea,c,n,l,q2⟩=>?_) hs
 subst ex
 obtain rfl:ov=Value.ref a:=rx
 exact UC I2 ea c n l ry fun s3 I3=>⟨σ,_,I3,q2⟩
theorem YM {pl:Sem Bool} {m:Str} {apos:Pos} {args:List Expr} {pins:List (Addr×Obj)} {s:Shared} {σ:St} {H:Hp} {Q:Value->Shared->Prop} {te:TE} (he:PE X e te) (I:Inv X pins σ H s)
  (h:te σ H fun x H1=>∃a C dx fs g,x=.ref a/\H1 a=some (.ins C dx fs)/\Cls X.K C/\PN X.K C m g/\fs.lookup m=none/\
   ∀s1,Inv X pins σ H1 s1->wpAny (model X.prog X.w) X.A (callWith pos (.ref g) [.ref a] (backTo pos (starEach args X.env)) (backToKw pos (keywordEach [] X.env))) Q X.xe s1)
  (ht:eval (.Call (.Attribute e m apos) args [] pos) X.env=(do
   let ov <-eval e X.env
   standAt apos.atName
   let (f,first) <-holding [ov] (getMethod ov m pl)
   callWith pos f first (backTo pos (starEach args X.env)) (backToKw pos (keywordEach [] X.env)))):
  wpAny (model X.prog X.w) X.A (eval (.Call (.Attribute e m apos) args [] pos) X.env) Q X.xe s:=by
 refine PySem.W.methodCall_KW (pl:=pl) (thn (he pins s σ H _ I h) fun u s1 ⟨x,H1,I1,rx,a,C,dx,fs,g,ex,ea,c,k,l,q⟩=>?_) ht
 subst ex
 obtain rfl:u=Value.ref a:=rx
 exact Kf I1 ea c k l (q s1 I1)
end
end L2
namespace L2
open PySem PySem.Spec PyProof.Rows
structure BK (k:Nat) (A:Around):Prop where
 hd:A.handled=none
 dp:A.depth+3*k+5<recursionLimit
 un:A.units+16*k+200<cLine
theorem BK.mono {j k:Nat} {A:Around} (r:BK k A) (h:j<=k):BK j A:=⟨r.hd,by have:=r.dp;omega,by have:=r.un;omega⟩
theorem BK.deeper {k:Nat} {A:Around} (r:BK (k+1) A) (env:Env):BK k (A.deeper env):=
 ⟨r.hd,by have:=r.dp;show A.depth+1+3*k+5<_;omega,by have:=r.un;show A.units+3+16*k+200<_;omega⟩
theorem Ua {A:Around} {C:Addr} {us:List Value} {kw:List (Str×Value)}:(A.under (.builtin "type.__call__" ⟨.ref C::us,kw⟩)).depth=A.depth+1:=by
 first|rfl|simp[Around.under,Code.weight,Code.isCreation,Code.isGuard,Code.isCaller,Code.frames,Code.isFrame,guardIds]
theorem UD {A:Around} {C:Addr} {us:List Value} {kw:List (Str×Value)}:(A.under (.builtin "type.__call__" ⟨.ref C::us,kw⟩)).units=A.units+1:=by
 first|rfl|simp[Around.under,Code.cUnits,Code.frames,Code.isFrame]
theorem BK.make {k:Nat} {A:Around} (r:BK (k+1) A) (C:Addr) (us:List Value) (kw:List (Str×Value)):BK k (A.under (.builtin "type.__call__" ⟨.ref C::us,kw⟩)):=
 ⟨r.hd,by have:=r.dp;rw[Ua];omega,by have:=r.un;rw[UD];omega⟩
theorem BK.depth {k:Nat} {A:Around} (r:BK k A):A.depth<recursionLimit:=by have:=r.dp;omega
theorem BK.units {k:Nat} {A:Around} (r:BK k A):A.units+64<cLine:=by have:=r.un;omega
def Lz:TA:=fun _ H Q=>Q [] H
def R1 (ta:TE) (tr:TA):TA:=fun σ H Q=>ta σ H fun x H1=>tr σ H1 fun xs H2=>Q (x::xs) H2
section
variable {X:Cx} {e:Expr} {es:List Expr} {te:TE} {t:TA} {pos:Pos}
theorem A3:PA X [] Lz:=fun _ _ _ _ H Q I h=>Calls.spliced_nil ⟨[],H,I,.nil,h⟩
theorem A0 (ha:PE X e te) (hr:PA X es t) (hs:starEach (e::es) X.env=(false,eval e X.env)::starEach es X.env:=by rfl):PA X (e::es) (R1 te t):=by
 intro pos pins s σ H Q I h
 rw[hs]
 show wpAny _ _ (spliced ((false,eval e X.env)::backTo pos (starEach es X.env))) _ _ s
 refine Calls.spliced_cons (thn (ha pins s σ H _ I h) fun u s1 ⟨x,H1,I1,r1,q1⟩=>?_)
 exact thn (hr pos pins s1 σ H1 _ I1 q1) fun us s2 ⟨xs,H2,I2,r2,q2⟩=>⟨x::xs,H2,I2,.cons r1 r2,q2⟩
def Uc (t:TA):TE:=fun σ H Q=>t σ H fun xs H1=>xs.length<=sizeLine/\∀p,H1 p=none->Q (.ref p) (upd H1 p (.tup xs))
def UN (t:TA):TE:=fun σ H Q=>t σ H fun xs H1=>xs.length<=sizeLine/\∀p,H1 p=none->Q (.ref p) (upd H1 p (.lst xs))
theorem BL {x1} (h:PA X es t):PE X (.Tuple es x1 pos) (Uc t):=by
 intro pins s σ H Q I hq
 refine wpAny_Tuple_spliced (thn (h pos pins s σ H _ I hq) fun us s1 ⟨xs,H1,I1,r,z,q⟩=>⟨by rw[<-r.length];exact z,?_⟩)
 have hf:H1 s1.heap.objs.size=none:=I1.hok.fresh (Nat.le_refl _)
 refine ⟨.ref s1.heap.objs.size,upd H1 s1.heap.objs.size (.tup xs),I1.laid (t':=s1.toks) (fun b u e=>Heap.get?_push_of_some _ e) (Nat.le_refl _) ?_,rfl,q _ hf⟩
 exact ⟨z,us,r,⟨_,Heap.get?_push_size _ rfl,rfl,_,rfl⟩⟩
theorem Af (h:PA X es t):PE X (.List es pos) (UN t):=by
 intro pins s σ H Q I hq
 refine wpAny_List_spliced (thn (h pos pins s σ H _ I hq) fun us s1 ⟨xs,H1,I1,r,z,q⟩=>⟨by rw[<-r.length];exact z,?_⟩)
 have hf:H1 s1.heap.objs.size=none:=I1.hok.fresh (Nat.le_refl _)
 refine ⟨.ref s1.heap.objs.size,upd H1 s1.heap.objs.size (.lst xs),I1.laid (t':=s1.toks) (fun b u e=>Heap.get?_push_of_some _ e) (Nat.le_refl _) ?_,rfl,q _ hf⟩
 exact ⟨z,us,0,r,Heap.get?_push_size _ rfl⟩
end
abbrev Sp:=List V->Hp->VK->XK->Prop
abbrev CXT:=List Env->Hp->Shared->XK->Value->Shared->Prop
structure NO (P:Program) (w:World) (K:PySem.W.Frag) (mg:Str->Option Value) (base:Heap) (A:Around) (outer:List Env) (s:Shared) (H:Hp):Prop where
 frames:A.frames=some outer
 mod:Mod K mg base
 bs:∀b o,base.get? b=some o->s.heap.get? b=some o/\H b=none
 bsz:base.objs.size<=s.heap.objs.size
 funs:s.heap.FunFrames base outer
 frf:∀b∈frs outer,H b=none
 hok:HOk P w H s.heap
 bare:AllBare s.gens
def CE (outer:List Env) (P:Program) (w:World) (H:Hp) (s:Shared) (Q:VK) (u:Value) (s':Shared):Prop:=
 ∃v H',s'.os=s.os/\AllBare s'.gens/\Un (frs outer) [] H H' s.heap s'.heap/\HOk P w H' s'.heap/\RelV v u/\Q v H'
def CR (CX:CXT) (outer:List Env) (P:Program) (w:World) (H:Hp) (s:Shared) (Q:VK) (E:XK) (r:Result) (s':Shared):Prop:=
 match r with
 |.ok (.ret u)=>CE outer P w H s Q u s'
 |.ok _=>False
 |.error e=>CX outer H s E e s'
structure Ef (P:Program) (w:World) (K:PySem.W.Frag) (mg:Str->Option Value) (base:Heap) (CX:CXT) (k:Nat) (f:Addr) (fd:FuncData) (ps:List Str) (sp:Sp):Prop where
 len:∀vs H Q E,sp vs H Q E->vs.length=ps.length
 run:∀(A:Around) (outer:List Env) (s:Shared) (H:Hp) (args:Args) (us:List Value) (vs:List V) (Q:VK) (E:XK),BK k A->NO P w K mg base A outer s H->BindsTo s fd args (ps.zip us)->AS vs us->sp vs H Q E->
  codeAny (model P w) A (.call (.ref f) args) (CR CX outer P w H s Q E) s
theorem NO.make {P:Program} {w:World} {K:PySem.W.Frag} {mg:Str->Option Value} {base:Heap} {A:Around} {outer:List Env} {s:Shared} {H:Hp} (e:NO P w K mg base A outer s H) (C:Addr) (us:List Value) (kw:List (Str×Value)):
  NO P w K mg base (A.under (.builtin "type.__call__" ⟨.ref C::us,kw⟩)) outer s H:=⟨by first|exact e.frames|(simpa [Around.under,Code.envs,Code.isFrame,pushEnvs] using e.frames),e.mod,e.bs,e.bsz,e.funs,e.frf,e.hok,e.bare⟩
section
variable {X:Cx} {pins:List (Addr×Obj)} {σ:St} {H:Hp} {s s':Shared}
theorem Inv.env0 (I:Inv X pins σ H s):NO X.prog X.w X.K X.mg X.base X.A X.stack s H:=
 ⟨I.ok.frames,I.ok.mod,I.bs,Nat.le_trans I.ok.bsz I.sz,I.stack,I.stkFree,I.hok,I.bare⟩
theorem Inv.after {Q:VK} {u:Value} (I:Inv X pins σ H s) (h:CE X.stack X.prog X.w H s Q u s'):EP X pins σ Q u s':=by
 obtain ⟨v,H',os,bare,un,hok,r,q⟩:=h
 obtain ⟨hh,g,d,t,os'⟩:=s'
 obtain rfl:os'=s.os:=os
 exact ⟨v,H',I.call (h':=hh) (g':=g) (d':=d) (t':=t) (ch:=[]) un hok bare (fun b z=>absurd z (by simp)),r,q⟩
end
def O8 (sp:Sp) (dvs:List V) (E:XK) (t:TA):TE:=fun σ H Q=>t σ H fun vs H1=>sp (vs++dvs) H1 Q E
def Kb (C:Addr) (m:Str) (sp:Sp) (dvs:List V) (E:XK) (ta:TE) (t:TA):TE:=fun σ H Q=>ta σ H fun x H1=>∃a dx fs,x=.ref a/\H1 a=some (.ins C dx fs)/\fs.lookup m=none/\
 t σ H1 fun vs H2=>sp (x::(vs++dvs)) H2 Q E
def KI (C:Addr) (sp:Sp) (dvs:List V) (E:XK) (t:TA):TE:=fun σ H Q=>t σ H fun vs H1=>∀x dx,H1 x=none->H1 dx=none->dx≠x->
 sp (.ref x::(vs++dvs)) (upd (upd H1 dx (.own x)) x (.ins C dx [])) (fun v H2=>v=.non/\Q (.ref x) H2) E
def Binds (K:PySem.W.Frag) (fd:FuncData) (ps:List Str) (ds:List Value):Prop:=
 ∀(s:Shared) (us:List Value),K.In s.heap->(us++ds).length=ps.length->BindsTo s fd ⟨us,[]⟩ (ps.zip (us++ds))
theorem Binds.all {K:PySem.W.Frag} {fd:FuncData} {ps:List Str} (h:∀us:List Value,us.length=ps.length->bindArgs fd ⟨us,[]⟩=pure (ps.zip us)):Binds K fd ps []:=fun s us _ hl=>by
 rw[List.append_nil]at hl ⊢
 exact .of_eq (h us hl)
def HE (CX:CXT) (X:Cx) (E:XK):Prop:=∀(pins:List (Addr×Obj)) (σ:St) (H:Hp) (s:Shared) (e:Value) (s':Shared),Inv X pins σ H s->CX X.stack H s E e s'->X.xe e s'
section
variable {X:Cx} {CX:CXT} {k:Nat} {f C:Addr} {fd:FuncData} {ps:List Str} {sp:Sp} {dvs:List V} {ds:List Value} {E:XK} {x m:Str} {p pos apos:Pos} {e o:Expr} {es:List Expr} {ta:TE} {t:TA}
theorem Re {pins:List (Addr×Obj)} {σ:St} {H:Hp} {s:Shared} {Q:VK} {us:List Value} {vs:List V} (F:Ef X.prog X.w X.K X.mg X.base CX k f fd ps sp) (hr:BK k X.A) (hb:Binds X.K fd ps ds) (hd:AS dvs ds) (hx:HE CX X E)
  (I:Inv X pins σ H s) (r:AS vs us) (h:sp (vs++dvs) H Q E):wpAny (model X.prog X.w) X.A (call (.ref f) us) (EP X pins σ Q) X.xe s:=by
 have r2:AS (vs++dvs) (us++ds):=r.append hd
 have hl:(us++ds).length=ps.length:=by rw[<-r2.length];exact F.len _ _ _ _ h
 refine wpAny_call (codeAny_mono (F.run X.A X.stack s H ⟨us,[]⟩ (us++ds) (vs++dvs) Q E hr I.env0 (hb s us I.kIn hl) r2 h) fun r s' hq=>?_)
 cases r with
 |error e=>exact hx pins σ H s e s' I hq
 |ok fl=>
  cases fl with
  |ret u=>exact I.after hq
  |next=>exact False.elim hq
  |brk=>exact False.elim hq
  |cont=>exact False.elim hq
theorem XG (F:Ef X.prog X.w X.K X.mg X.base CX k f fd ps sp) (hr:BK k X.A) (hg:Gl X x) (hm:X.mg x=some (.ref f)) (hk:PySem.W.keepIn X.K (.ref f)=true) (hb:Binds X.K fd ps ds) (hd:AS dvs ds) (hx:HE CX X E)
  (ha:PA X (e::es) t) (hdb:(x==("__debug__":Str))=false:=by decide) (he:starEach (e::es) X.env=(false,eval e X.env)::starEach es X.env:=by rfl) (hpl:(backTo pos (starEach es X.env)).any (·.1)=false:=by rfl):
  PE X (.Call (.Name x p) (e::es) [] pos) (O8 sp dvs E t):=by
 intro pins s σ H Q I h
 refine wpAny_Call_Name_kw (MD I hg hm ?_ hdb)
 refine PySem.W.callWith_K (h₀:=X.base) I.ok.mod.kin hk (thn (ha pos pins s σ H _ I h) fun us s1 ⟨vs,H1,I1,r,q⟩=>⟨I1.kIn,?_⟩) he hpl
 exact Re F hr hb hd hx I1 r q
theorem XC {pl:Sem Bool} (he:PE X o ta) (c:Cls X.K C) (hm:PN X.K C m f) (F:Ef X.prog X.w X.K X.mg X.base CX k f fd ps sp) (hr:BK k X.A) (hb:Binds X.K fd ps ds) (hd:AS dvs ds) (hx:HE CX X E) (ha:PA X (e::es) t)
  (hst:starEach (e::es) X.env=(false,eval e X.env)::starEach es X.env:=by rfl) (hpl:(backTo pos (starEach es X.env)).any (·.1)=false:=by rfl)
  (ht:eval (.Call (.Attribute o m apos) (e::es) [] pos) X.env=(do
   let ov <-eval o X.env
   standAt apos.atName
   let (f,first) <-holding [ov] (getMethod ov m pl)
   callWith pos f first (backTo pos (starEach (e::es) X.env)) (backToKw pos (keywordEach [] X.env))):=by rfl):
  PE X (.Call (.Attribute o m apos) (e::es) [] pos) (Kb C m sp dvs E ta t):=by
 intro pins s σ H Q I h
 refine PySem.W.methodCall_KW (pl:=pl) (thn (he pins s σ H _ I h) fun u s1 ⟨x,H1,I1,rx,a,dx,fs,ex,ea,l,q⟩=>?_) ht
 subst ex
 obtain rfl:u=Value.ref a:=rx
 refine Kf I1 ea c hm l ?_
 refine PySem.W.callWith_K (first:=[.ref a]) (h₀:=X.base) I.ok.mod.kin hm.kp (thn (ha pos pins s1 σ H1 _ I1 q) fun us s2 ⟨vs,H2,I2,r,q2⟩=>⟨I2.kIn,?_⟩) hst hpl
 exact Re (us:=.ref a::us) (vs:=.ref a::vs) F hr hb hd hx I2 (.cons rfl r) q2
theorem WX {pl:Sem Bool} (he:PE X o ta) (c:Cls X.K C) (hm:PN X.K C m f) (F:Ef X.prog X.w X.K X.mg X.base CX k f fd ps sp) (hr:BK k X.A) (hb:Binds X.K fd ps ds) (hd:AS dvs ds) (hx:HE CX X E)
  (ht:eval (.Call (.Attribute o m apos) [] [] pos) X.env=(do
   let ov <-eval o X.env
   standAt apos.atName
   let (f,first) <-holding [ov] (getMethod ov m pl)
   callWith pos f first (backTo pos (starEach [] X.env)) (backToKw pos (keywordEach [] X.env))):=by rfl):
  PE X (.Call (.Attribute o m apos) [] [] pos) (Kb C m sp dvs E ta Lz):=by
 intro pins s σ H Q I h
 refine PySem.W.methodCall_KW (pl:=pl) (thn (he pins s σ H _ I h) fun u s1 ⟨x,H1,I1,rx,a,dx,fs,ex,ea,l,q⟩=>?_) ht
 subst ex
 obtain rfl:u=Value.ref a:=rx
 refine Kf I1 ea c hm l ?_
 exact PySem.W.callWith_K0 (first:=[.ref a]) I1.kIn hm.kp (Re (us:=[.ref a]) (vs:=[.ref a]) F hr hb hd hx I1 (.cons rfl .nil) q)
structure Mk (K:PySem.W.Frag) (C f:Addr):Prop where
 makes:PySem.W.makesIn K C=true
 init:PySem.W.findIn K (.ref C) "__init__"=some (some (.ref f))
 fn:PySem.W.isFn K (.ref f)=true
 kp:PySem.W.keepIn K (.ref C)=true
theorem Rg {pins:List (Addr×Obj)} {σ:St} {H:Hp} {s:Shared} {Q:VK} {us:List Value} {vs:List V} (M:Mk X.K C f) (F:Ef X.prog X.w X.K X.mg X.base CX k f fd ps sp) (hr:BK (k+1) X.A) (hb:Binds X.K fd ps ds) (hd:AS dvs ds)
  (hx:HE CX X E) (I:Inv X pins σ H s) (r:AS vs us)
  (h:∀x dx,H x=none->H dx=none->dx≠x->sp (.ref x::(vs++dvs)) (upd (upd H dx (.own x)) x (.ins C dx [])) (fun v H2=>v=.non/\Q (.ref x) H2) E):
  wpAny (model X.prog X.w) X.A (call (.ref C) us) (EP X pins σ Q) X.xe s:=by
 have hq:=h (s.heap.objs.size+1) s.heap.objs.size (I.hok.fresh (Nat.le_succ _)) (I.hok.fresh (Nat.le_refl _)) (Nat.ne_of_lt (Nat.lt_succ_self _))
 have I2:=Inv.made (C:=C) I
 have r2:AS (V.ref (s.heap.objs.size+1)::(vs++dvs)) (Value.ref (s.heap.objs.size+1)::(us++ds)):=.cons rfl (r.append hd)
 have hl:(Value.ref (s.heap.objs.size+1)::us++ds).length=ps.length:=by
  have e:=r2.length
  rw[F.len _ _ _ _ hq]at e
  exact e.symm
 refine wpAny_call (WZ (f:=f) I.kIn M.makes M.init (beq_iff_eq.mp M.fn) (codeAny_mono (F.run _ X.stack _ _ ⟨Value.ref (s.heap.objs.size+1)::us,[]⟩ (Value.ref (s.heap.objs.size+1)::(us++ds)) _ _ E (hr.make C us [])
  (I2.env0.make C us []) (hb _ (Value.ref (s.heap.objs.size+1)::us) I2.kIn hl) r2 hq) fun r s' hq'=>?_))
 cases r with
 |error e=>exact hx pins σ _ _ e s' I2 hq'
 |ok fl=>
  cases fl with
  |ret u=>
   obtain ⟨v,H',I3,rv,ev,q3⟩:=I2.after hq'
   subst ev
   exact ⟨rv,⟨V.ref (s.heap.objs.size+1),H',I3,rfl,q3⟩⟩
  |next=>exact False.elim hq'
  |brk=>exact False.elim hq'
  |cont=>exact False.elim hq'
theorem XW (M:Mk X.K C f) (F:Ef X.prog X.w X.K X.mg X.base CX k f fd ps sp) (hr:BK (k+1) X.A) (hg:Gl X x) (hm:X.mg x=some (.ref C)) (hb:Binds X.K fd ps ds) (hd:AS dvs ds) (hx:HE CX X E)
  (ha:PA X (e::es) t) (hdb:(x==("__debug__":Str))=false:=by decide) (he:starEach (e::es) X.env=(false,eval e X.env)::starEach es X.env:=by rfl) (hpl:(backTo pos (starEach es X.env)).any (·.1)=false:=by rfl):
  PE X (.Call (.Name x p) (e::es) [] pos) (KI C sp dvs E t):=by
 intro pins s σ H Q I h
 refine wpAny_Call_Name_kw (MD I hg hm ?_ hdb)
 refine PySem.W.callWith_K (h₀:=X.base) I.ok.mod.kin M.kp (thn (ha pos pins s σ H _ I h) fun us s1 ⟨vs,H1,I1,r,q⟩=>⟨I1.kIn,?_⟩) he hpl
 exact Rg M F hr hb hd hx I1 r q
theorem WO (M:Mk X.K C f) (F:Ef X.prog X.w X.K X.mg X.base CX k f fd ps sp) (hr:BK (k+1) X.A) (hg:Gl X x) (hm:X.mg x=some (.ref C)) (hb:Binds X.K fd ps ds) (hd:AS dvs ds) (hx:HE CX X E)
  (hdb:(x==("__debug__":Str))=false:=by decide):PE X (.Call (.Name x p) [] [] pos) (KI C sp dvs E Lz):=by
 intro pins s σ H Q I h
 refine wpAny_Call_Name_kw (MD I hg hm ?_ hdb)
 exact PySem.W.callWith_K0 I.kIn M.kp (Rg (us:=[]) M F hr hb hd hx I .nil h)
end
structure AC (N P:List Str) (sc:Scope):Prop where
 kind:sc.kind=.function
 co:sc.isCoroutine=false
 gen:sc.isGenerator=false
 nd:N.Nodup
 pre:N.take P.length=P
 par:∀x∈P,sc.names.lookup x=some .local\/sc.names.lookup x=some .cell
 nofree:∀y∈sc.names,y.2≠.free
theorem Pg {kindOf:Str->Option NameKind} {x:Str}:∀{binds:List (Str×Value)} {m:Str->Option Value},(∀v,(x,v)∉binds)->bindL kindOf binds m x=m x
 |[],_,_=>rfl
 |(n,v)::r,m,h=>by
  unfold bindL
  rw[Pg fun w hw=>h w (List.mem_cons_of_mem _ hw)]
  split
  ·have:x≠n:=by rintro rfl;exact h v List.mem_cons_self
   simp[this]
  ·rfl
theorem Pf {kindOf:Str->Option NameKind} {x:Str}:∀{binds:List (Str×Value)} {m:Str->Option Value},(∀v,(x,v)∉binds)->bindC kindOf binds m x=m x
 |[],_,_=>rfl
 |(n,v)::r,m,h=>by
  unfold bindC
  rw[Pf fun w hw=>h w (List.mem_cons_of_mem _ hw)]
  split
  ·rfl
  ·have:x≠n:=by rintro rfl;exact h v List.mem_cons_self
   simp[this]
theorem Pi {kindOf:Str->Option NameKind} {x:Str} {v:Value}:∀{P:List Str} {vs:List Value} {i:Nat} {m:Str->Option Value},P.Nodup->P[i]?=some x->vs[i]?=some v->kindOf x=some .local->
  bindL kindOf (P.zip vs) m x=some v
 |[],_,_,_,_,h,_,_=>by simp at h
 |_::_,[],_,_,_,_,h,_=>by simp at h
 |p::P,w::vs,0,m,nd,h1,h2,hk=>by
  simp at h1 h2;subst h1;subst h2
  show bindL kindOf ((p,w)::P.zip vs) m p=_
  unfold bindL
  rw[Pg fun v hv=>(List.nodup_cons.mp nd).1 (List.of_mem_zip hv).1,if_pos hk]
  simp
 |p::P,w::vs,i+1,m,nd,h1,h2,hk=>by
  show bindL kindOf ((p,w)::P.zip vs) m x=_
  unfold bindL
  exact Pi (i:=i) (List.nodup_cons.mp nd).2 (by simpa using h1) (by simpa using h2) hk
theorem Q4 {kindOf:Str->Option NameKind} {x:Str} {v:Value}:∀{P:List Str} {vs:List Value} {i:Nat} {m:Str->Option Value},P.Nodup->P[i]?=some x->vs[i]?=some v->kindOf x≠some .local->
  bindC kindOf (P.zip vs) m x=some v
 |[],_,_,_,_,h,_,_=>by simp at h
 |_::_,[],_,_,_,_,h,_=>by simp at h
 |p::P,w::vs,0,m,nd,h1,h2,hk=>by
  simp at h1 h2;subst h1;subst h2
  show bindC kindOf ((p,w)::P.zip vs) m p=_
  unfold bindC
  rw[Pf fun v hv=>(List.nodup_cons.mp nd).1 (List.of_mem_zip hv).1,if_neg hk]
  simp
 |p::P,w::vs,i+1,m,nd,h1,h2,hk=>by
  show bindC kindOf ((p,w)::P.zip vs) m x=_
  unfold bindC
  exact Q4 (i:=i) (List.nodup_cons.mp nd).2 (by simpa using h1) (by simpa using h2) hk
def start (N:List Str) (vs:List V):St:=vs.map some++List.replicate (N.length - vs.length) none
def JX (CX:CXT) (P:Program) (w:World) (K:PySem.W.Frag) (mg:Str->Option Value) (base:Heap) (N:List Str) (qual:Str) (scope:Scope) (f:Addr) (cd:Value) (A:Around) (outer:List Env) (s:Shared) (H:Hp) (E:XK):Cx where
 prog:=P
 w:=w
 K:=K
 mg:=mg
 base:=base
 A:=A.deeper (envOfC qual scope s.heap.objs.size f cd)
 N:=N
 s_0:=s
 H_0:=H
 env:=envOfC qual scope s.heap.objs.size f cd
 outer:=outer
 stack:=envOfC qual scope s.heap.objs.size f cd::outer
 ex:=[]
 calm:=true
 fn:=fun _=>true
 pn:=[]
 xe:=fun e s'=>wpAny (model P w) (A.deeper (envOfC qual scope s.heap.objs.size f cd)) (leaving (envOfC qual scope s.heap.objs.size f cd) e) (fun _ s''=>CX outer H s E e s'') (fun e' s''=>CX outer H s E e' s'') s'
theorem Rj {sc:Scope} {n:Nat} {x:Str} (h:sc.names.lookup x=some .cell):∃c,(cellsFrom n sc.names []).lookup x=some c:=by
 have q:=PySem.W.cellsFrom_some sc.names n [] (.inl h)
 exact Option.isSome_iff_exists.mp q
theorem VO {CX:CXT} {P:Program} {w:World} {K:PySem.W.Frag} {mg:Str->Option Value} {base:Heap} {N ps:List Str} {qual:Str} {scope:Scope} {f:Addr} {cd:Value} {A:Around} {outer:List Env} {s s1:Shared} {H:Hp} {E:XK} {us:List Value} {vs:List V}
  (S:AC N ps scope) (hd:A.handled=none) (e0:NO P w K mg base A outer s H) (hl:vs.length=ps.length) (r:AS vs us)
  (x:InCallC s s.heap.objs.size (bindL (envOfC qual scope s.heap.objs.size f cd).kindOf (ps.zip us) fun _=>none) (cellsFrom (s.heap.objs.size+1) scope.names []) (bindC (envOfC qual scope s.heap.objs.size f cd).kindOf (ps.zip us) fun _=>none) s1):
  Inv (JX CX P w K mg base N qual scope f cd A outer s H E) [] (start N vs) H s1:=by
 have hpl:ps.length<=N.length:=by have:=congrArg List.length S.pre;rw[List.length_take]at this;omega
 obtain ⟨h1,tk,rfl,hk⟩:=x.done
 have noA:∀b:Addr,b∉(JX CX P w K mg base N qual scope f cd A outer s H E).ex:=fun b z=>absurd (show b∈([]:List Addr) from z) (by simp)
 refine ⟨⟨e0.mod,S.kind,rfl,rfl,Nat.le_refl _,fun y z c h1 h2=>?_,fun y hy=>?_,fun y c _ h=>?_,fun _=>hd,Around.frames_deeper e0.frames,.inr ⟨rfl,rfl⟩,fun b z=>absurd z (noA b),e0.bs,e0.bsz,fun b _ _=>noA b,fun b z=>absurd z (noA b),e0.funs,e0.frf⟩,
  rfl,e0.bare,Un.kept hk,⟨_,x.toInCall.ns,fun i y v h1 h2 h3=>?_⟩,fun y c h=>⟨_,x.cell y c h⟩,e0.hok.fresh (Nat.le_refl _),fun y c h=>?_,fun p hp=>absurd (show p∈([]:List (Addr×Obj)) from hp) (by simp),e0.hok.kept hk,?_⟩
 ·exact name_of_addr x.apart (PySem.mem_of_lookup h1) (PySem.mem_of_lookup h2)
 ·have hy:scope.names.lookup y=some .cell\/scope.names.lookup y=some .free:=hy
  rcases hy with hy|hy
  ·exact Rj hy
  ·exact absurd rfl (S.nofree _ (PySem.mem_of_lookup hy))
 ·exact Nat.le_of_lt (x.above y c (PySem.mem_of_lookup h))
 ·have hi:i<vs.length:=by
   unfold start at h2
   by_cases hi:i<vs.length
   ·exact hi
   ·rw[List.getElem?_append_right (by simpa using hi)]at h2
    rw[List.getElem?_replicate]at h2
    split at h2<;>cases h2
  have ha:vs[i]?=some v:=by
   unfold start at h2
   rw[List.getElem?_append_left (by simpa using hi),List.getElem?_map]at h2
   cases e:vs[i]? with
   |none=>rw[e]at h2;cases h2
   |some a=>rw[e]at h2;cases h2;rfl
  obtain ⟨u,hu,rv⟩:=r.get ha
  have hp:ps[i]?=some y:=by
   rw[<-S.pre,List.getElem?_take_of_lt (by omega)];exact h1
  have ndP:ps.Nodup:=by rw[<-S.pre];exact S.nd.sublist (List.take_sublist _ _)
  refine ⟨u,rv,?_⟩
  rcases S.par y (List.mem_of_getElem? hp) with k|k
  ·exact .inl ⟨k,Pi ndP hp hu k⟩
  ·obtain ⟨c,e⟩:=Rj (n:=s.heap.objs.size+1) k
   refine .inr ⟨.inl k,c,e,?_⟩
   have q:=x.cell y c e
   rw[Q4 ndP hp hu (by show scope.names.lookup y≠_;rw[k];decide)]at q
   exact q
 ·exact e0.hok.fresh (Nat.le_of_lt (x.above y c (PySem.mem_of_lookup h)))
 ·unfold start
  show _=N.length
  rw[List.length_append,List.length_map,List.length_replicate]
  omega
theorem Ya {CX:CXT} {P:Program} {w:World} {K:PySem.W.Frag} {mg:Str->Option Value} {base:Heap} {k:Nat} {f:Addr} {name qual:Str} {params:Arguments} {body:List Stmt} {scope:Scope} {dV kV doc pm cdv ct oc:Value} {an od:Option Addr}
  {osl:Array (Option Value)} {N ps:List Str} {sp:Sp} (lk:K.lookup f=some ⟨oc,od,.func (PySem.W.fnOf name qual params body scope dV kV doc pm an cdv ct),osl⟩) (hcd:PySem.W.codeIn K cdv qual=true) (S:AC N ps scope)
  (len:∀vs H Q E,sp vs H Q E->vs.length=ps.length)
  (hbody:∀(A:Around) (outer:List Env) (s:Shared) (H:Hp) (vs:List V) (Q:VK) (E:XK),BK k (A.deeper (envOfC qual scope s.heap.objs.size f cdv))->sp vs H Q E->
   ∃t,PSs (JX CX P w K mg base N qual scope f cdv A outer s H E) body t/\t {nx:=fun _ H'=>Q .non H',rt:=Q} (start N vs) H):
  Ef P w K mg base CX (k+1) f (PySem.W.fnOf name qual params body scope dV kV doc pm an cdv ct) ps sp:=by
 refine ⟨len,fun A outer s H args us vs Q E hr e0 hb r hsp=>?_⟩
 have hl:=len _ _ _ _ hsp
 have KX:K.In s.heap:=e0.mod.kin.keeps fun b o e=>(e0.bs b o e).1
 have lim:s.heap.NoLimit:=e0.mod.nolimit.keeps fun b o e=>(e0.bs b o e).1
 have hkind:∀y∈ps.zip us,scope.names.lookup y.1=some .local\/(scope.names.lookup y.1=some .cell/\((cellsFrom (s.heap.objs.size+1) scope.names []).lookup y.1).isSome=true):=fun ⟨n,v⟩ hy=>by
  rcases S.par n (List.of_mem_zip hy).1 with q|q
  ·exact .inl q
  ·exact .inr ⟨q,PySem.W.cellsFrom_some _ _ _ (.inl q)⟩
 refine codeAny_call_function hr.depth (KX _ _ lk) rfl S.co S.gen rfl (PySem.W.codeRec_of KX hcd) (hb _ _ _ _ ?_)
 refine wpAny_newFunctionEnv_cells S.kind hkind fun env he s1 x=>?_
 subst he
 refine ⟨lim.keeps x.toInCall.keep,codeAny_func ?_⟩
 obtain ⟨t,ht,hq⟩:=hbody A outer s H vs Q E (hr.deeper _) hsp
 have I:Inv (JX CX P w K mg base N qual scope f cdv A outer s H E) [] (start N vs) H s1:=VO S hr.hd e0 hl r x
 refine wpAny_mono (ht [] s1 (start N vs) H _ I hq) (fun fl s' hs=>?_) fun e s' hs=>hs
 have fin:∀{σ':St} {H':Hp} {v:V} {u:Value},Inv (JX CX P w K mg base N qual scope f cdv A outer s H E) [] σ' H' s'->RelV v u->Q v H'->CE outer P w H s Q u s':=
  fun {σ' H' v u} J rv q=>⟨v,H',J.os,J.bare,J.base,J.hok,rv,q⟩
 cases fl with
 |ret u=>
  obtain ⟨v,σ',H',J,rv,q⟩:=hs
  exact fin J rv q
 |next=>
  obtain ⟨σ',H',J,q⟩:=hs
  exact fin (v:=V.non) (u:=Value.none) J rfl q
 |brk=>
  obtain ⟨_,_,_,q⟩:=hs
  exact False.elim q
 |cont=>
  obtain ⟨_,_,_,q⟩:=hs
  exact False.elim q
end L2
namespace L2
open PySem PySem.Spec PyProof.Rows
section
variable {X:Cx} {x:Str} {p pos:Pos} {e:Expr} {es:List Expr} {t:TA} {id T:String} {r:List V->Hp->VK->Prop}
def tCB (r:List V->Hp->VK->Prop) (t:TA):TE:=fun σ H Q=>t σ H fun vs H1=>r vs H1 Q
theorem AN (hc:Gp X (.builtin id) r) (hg:Gl X x) (hm:X.mg x=none) (hv:bootBuiltins x=some (.builtin id)) (ha:PA X (e::es) t) (hn:x≠"__name__":=by decide) (hdb:(x==("__debug__":Str))=false:=by decide)
  (he:starEach (e::es) X.env=(false,eval e X.env)::starEach es X.env:=by rfl) (hpl:(backTo pos (starEach es X.env)).any (·.1)=false:=by rfl):PE X (.Call (.Name x p) (e::es) [] pos) (tCB r t):=by
 intro pins s σ H Q I h
 refine wpAny_Call_Name_kw (Ij I hg hm hv ?_ hn hdb)
 exact PyProof.Rows.callWith_builtin1 (thn (ha pos pins s σ H _ I h) fun us s1 ⟨vs,H1,I1,r1,q1⟩=>hc pins s1 σ H1 vs us Q I1 r1 q1) he hpl
theorem Cg (hc:Gp X (.type T) r) (hg:Gl X x) (hm:X.mg x=none) (hv:bootBuiltins x=some (.type T)) (ha:PA X (e::es) t) (hn:x≠"__name__":=by decide) (hdb:(x==("__debug__":Str))=false:=by decide)
  (he:starEach (e::es) X.env=(false,eval e X.env)::starEach es X.env:=by rfl) (hpl:(backTo pos (starEach es X.env)).any (·.1)=false:=by rfl):PE X (.Call (.Name x p) (e::es) [] pos) (tCB r t):=by
 intro pins s σ H Q I h
 refine wpAny_Call_Name_kw (Ij I hg hm hv ?_ hn hdb)
 exact PyProof.Rows.callWith_type1 (thn (ha pos pins s σ H _ I h) fun us s1 ⟨vs,H1,I1,r1,q1⟩=>hc pins s1 σ H1 vs us Q I1 r1 q1) he hpl
end
end L2
namespace HT
open PySem PyProof.Rows
section
open PySem.SeqAt
open PySem.AutoSeq1 (wpAny_loadPart')
open PySem.MeetsSeq PySem.MeetsSeq2 PySem.MeetsSeq3
end
section
variable {prog:Program} {w:World} {A:Around} {E:Value->Shared->Prop} {s:Shared}
theorem cat_tup {t b:Addr} {vs ws:List Value} {Q:Value->Shared->Prop} (ht:IsTup s.heap t vs.toArray) (hb:IsTup s.heap b ws.toArray) (hv:vs≠[])
  (h1:ws=[]->Q (.ref t) s) (h2:ws≠[]->Q (.ref s.heap.objs.size) {s with heap:=s.heap.push {cls:=.type "tuple",data:=.seq (vs++ws).toArray}})
  (hsz:vs.length+ws.length<=sizeLine):wpAny (model prog w) A (binaryOp .Add (.ref t) (.ref b)) Q E s:=by
 obtain ⟨⟨cls,dd,data,sl⟩,ho,hc,n,hd⟩:=id ht
 obtain ⟨⟨cls2,dd2,data2,sl2⟩,ho2,hc2,n2,hd2⟩:=id hb
 simp only at hc hd hc2 hd2
 subst hc hd hc2 hd2
 have e:vs.toArray++ws.toArray=(vs++ws).toArray:=by simp
 by_cases hw:ws=[]
 ·exact concat_meets ⟨_,ho,rfl⟩ ⟨_,ho2,rfl⟩ noFill_tuple_add seq_tuple_add PySem.F.slot_tuple_add PySem.F.entry_tuple_add (PySem.F.args_tuple_add_2 _ _)
   (tuple_addW1 t b vs.toArray ws.toArray n n2 dd dd2 sl sl2 (by simpa using hv) (by simp[hw])) ⟨ho,ho2,h1 hw⟩
 ·refine concat_meets ⟨_,ho,rfl⟩ ⟨_,ho2,rfl⟩ noFill_tuple_add seq_tuple_add PySem.F.slot_tuple_add PySem.F.entry_tuple_add (PySem.F.args_tuple_add_2 _ _)
   (tuple_addW2 t b vs.toArray ws.toArray n n2 dd dd2 sl sl2 (by simpa using hv) (by simpa using hw) (by rw[List.size_toArray,List.size_toArray];exact hsz)) ⟨ho,ho2,?_⟩
  rw[e]
  exact h2 hw
def sIx (n d:Nat):Option Int->Nat
 |none=>d
 |some v=>if v<0 then (v+(n:Int)).toNat else min v.toNat n
theorem sIx_none (n d:Nat):sIx n d none=d:=rfl
theorem sIx_nat (n d k:Nat):sIx n d (some (k:Int))=min k n:=by
 show (if (k:Int)<0 then ((k:Int)+(n:Int)).toNat else min (k:Int).toNat n)=min k n
 rw[if_neg (by omega),Int.toNat_natCast]
theorem Y9 (n d:Nat) (hd:d<=n) (o:Option Int):sIx n d o<=n:=by
 cases o with
 |none=>exact hd
 |some v=>
  show (if v<0 then (v+(n:Int)).toNat else min v.toNat n)<=n
  by_cases hv:v<0
  ·rw[if_pos hv];omega
  ·rw[if_neg hv];exact Nat.min_le_right _ _
theorem Tg (v:Int) (n d:Nat):(if v<0 then max (v+(n:Int)) 0 else min v (n:Int))=((sIx n d (some v):Nat):Int):=by
 show (if v<0 then max (v+(n:Int)) 0 else min v (n:Int))=(((if v<0 then (v+(n:Int)).toNat else min v.toNat n):Nat):Int)
 by_cases hv:v<0
 ·simp only[if_pos hv];omega
 ·simp only[if_neg hv];omega
theorem Ue (lo hi:Option Int) (n:Nat):Builtin.Slice.sliceAdjust lo hi 1 (n:Int)=(((sIx n 0 lo:Nat):Int),((sIx n n hi:Nat):Int)):=by
 have h1:¬((1:Int)<0):=by omega
 unfold Builtin.Slice.sliceAdjust
 simp only[h1,if_false]
 refine Prod.ext ?_ ?_
 ·cases lo with
  |none=>rfl
  |some v=>exact Tg v n 0
 ·cases hi with
  |none=>rfl
  |some v=>exact Tg v n n
theorem UG (i j:Nat):Builtin.Slice.slicePlaces (i:Int) (j:Int) 1=j - i:=by
 unfold Builtin.Slice.slicePlaces
 have h1:(1:Int)>0:=by omega
 simp only[h1,if_true,Int.ediv_one]
 split<;>omega
theorem OW {v:Value} {o:Option Int} {Q:Option Int->Shared->Prop} (p:IsPart v o) (h:Q o s):wpAny (model prog w) A (Builtin.Slice.slicePartIndex v) Q E s:=by
 cases p with
 |none=>exact slicePart_none h
 |int i t=>exact slicePart_int h
theorem sliceApplied_gen {sl:Addr} {vl vu:Value} {lo hi:Option Int} {n:Nat} {Q:Int×Int×Nat->Shared->Prop} (hs:s.heap.IsSliceOf sl vl vu .none) (pl:IsPart vl lo) (pu:IsPart vu hi)
  (h:Q (((sIx n 0 lo:Nat):Int),1,sIx n n hi - sIx n 0 lo) s):wpAny (model prog w) A (Builtin.Slice.sliceApplied (.ref sl) (pure (n:Int))) Q E s:=by
 obtain ⟨os,hos,hcs,hds⟩:=id hs
 unfold Builtin.Slice.sliceApplied Builtin.Slice.sliceFields
 refine wpAny_bind (wpAny_bind (wpAny_field hos hds (x:=vl) rfl (wpAny_bind (wpAny_field hos hds (x:=vu) rfl (wpAny_bind (wpAny_field hos hds (x:=.none) rfl (wpAny_pure ?_)))))))
 refine wpAny_bind (slicePart_none ?_)
 show wpAny _ _ (if ((1:Int)==0)=true then _ else _) _ _ s
 rw[if_neg (by decide)]
 refine wpAny_bind (OW pl (wpAny_bind (OW pu (wpAny_bind (wpAny_pure ?_)))))
 show wpAny _ _ (match Builtin.Slice.sliceAdjust lo hi 1 (n:Int) with|(lo,hi)=>pure (lo,(1:Int),Builtin.Slice.slicePlaces lo hi 1)) _ _ s
 rw[Ue lo hi n]
 show wpAny _ _ (pure (((sIx n 0 lo:Nat):Int),(1:Int),Builtin.Slice.slicePlaces ((sIx n 0 lo:Nat):Int) ((sIx n n hi:Nat):Int) 1)) _ _ s
 rw[UG]
 exact wpAny_pure h
theorem WJ (xs:Array Value) (i k:Nat):((List.range k).filterMap fun (m:Nat)=>xs[((i:Int)+(m:Int)*1).toNat]?).toArray=((xs.toList.drop i).take k).toArray:=by
 have e:(fun (m:Nat)=>xs[((i:Int)+(m:Int)*1).toNat]?)=fun m=>xs[i+m]?:=by
  funext m
  have:((i:Int)+(m:Int)*1).toNat=i+m:=by omega
  rw[this]
 rw[e]
 have:=pick_run xs i k
 rw[List.filterMap_map]at this
 have e2:((fun x=>xs[x]?)∘fun x=>i+x)=fun m=>xs[i+m]?:=rfl
 rw[e2]at this
 rw[this]
theorem getItem_tuple_cut {t sl:Addr} {items:Array Value} {vl vu:Value} {lo hi:Option Int} {Q:Value->Shared->Prop} (ht:IsTup s.heap t items) (hs:s.heap.IsSliceOf sl vl vu .none) (pl:IsPart vl lo) (pu:IsPart vu hi)
  (hw:¬(sIx items.size 0 lo=0/\sIx items.size items.size hi=items.size))
  (h:Q (.ref s.heap.objs.size) {s with heap:=s.heap.push {cls:=.type "tuple",data:=.seq ((items.toList.drop (sIx items.size 0 lo)).take (sIx items.size items.size hi - sIx items.size 0 lo)).toArray}})
  (hsz:items.size<=sizeLine):wpAny (model prog w) A (getItem (.ref t) (.ref sl)) Q E s:=by
 have htake:sizeOk (.seq ((items.toList.drop (sIx items.size 0 lo)).take (sIx items.size items.size hi - sIx items.size 0 lo)).toArray):=by
  show ((items.toList.drop (sIx items.size 0 lo)).take (sIx items.size items.size hi - sIx items.size 0 lo)).toArray.size<=sizeLine
  rw[List.size_toArray,List.length_take,List.length_drop,Array.length_toList]
  omega
 have hj:sIx items.size items.size hi<=items.size:=Y9 _ _ (Nat.le_refl _) hi
 obtain ⟨os,hos,hcs,hds⟩:=id hs
 have hTs:s.TypeIs (.ref sl) "slice":=⟨os,hos,hcs⟩
 unfold getItem
 try with_reducible refine wpAny_holding ?_
 first|refine wpAny_bind (wpAny_pure ?_)|skip
 refine wpAny_bind (wpAny_sequenceKey ht.typeIs (by decide) ?_)
 refine wpAny_bind (wpAny_callSpecial?_slot (name:=Str.ofString "__getitem__") ht.typeIs PyProof.Rows.slot_tuple_getitem
  (wpAny_call_entry PyProof.Rows.slot_tuple_getitem ht.typeIs entry_tuple_getitem ?_ (args_tuple_getitem _ _)))
 show wpAny _ _ (Builtin.Tuple.tupleItemsOf (.ref t)>>=_) _ _ s
 refine wpAny_bind (tupleItemsOf_ ht ?_)
 refine wpAny_bind (wpAny_typeOf hTs ?_)
 rw[if_pos (by decide)]
 refine wpAny_bind (sliceApplied_gen hs pl pu ?_)
 have hno:¬((((sIx items.size 0 lo:Nat):Int)==0&&(1:Int)==1&&(sIx items.size items.size hi - sIx items.size 0 lo)==items.size)=true):=by
  intro q
  rw[Bool.and_eq_true,Bool.and_eq_true]at q
  have q1:((sIx items.size 0 lo:Nat):Int)=0:=eq_of_beq q.1.1
  have q2:sIx items.size items.size hi - sIx items.size 0 lo=items.size:=eq_of_beq q.2
  exact hw ⟨by omega,by omega⟩
 show wpAny _ _ (if (((sIx items.size 0 lo:Nat):Int)==0&&(1:Int)==1&&(sIx items.size items.size hi - sIx items.size 0 lo)==items.size)=true then _ else _) _ _ s
 rw[if_neg hno,WJ]
 first
  |exact wpAny_bind (m:=Builtin.Tuple.tupleExact _) (wpAny_newObj_type (wpAny_pure ⟨_,rfl,wpAny_pure h⟩) htake)
  |exact wpAny_bind (m:=Builtin.Tuple.tupleExact _) (wpAny_newObj_type (wpAny_bind (wpAny_pure (wpAny_pure ⟨_,rfl,wpAny_pure h⟩))) htake)
  |exact wpAny_bind (wpAny_bind (m:=Builtin.Tuple.tupleExact _) (wpAny_newObj_type (wpAny_pure (wpAny_pure ⟨_,rfl,wpAny_pure h⟩)) htake))
  |exact wpAny_bind (wpAny_bind (m:=Builtin.Tuple.tupleExact _) (wpAny_newObj_type (wpAny_pure ⟨_,rfl,wpAny_pure h⟩) htake))
end
end HT
namespace L2
open PySem PySem.Spec PyProof.Rows
abbrev TO:=St->Hp->(Option Int->Hp->Prop)->Prop
def PO (X:Cx) (e:Option Expr) (t:TO):Prop:=
 ∀(pins:List (Addr×Obj)) (s:Shared) (σ:St) (H:Hp) (Q:Option Int->Hp->Prop),Inv X pins σ H s->t σ H Q->
  wpAny (model X.prog X.w) X.A (evalPart e X.env) (fun u s'=>∃o H',Inv X pins σ H' s'/\IsPart u o/\Q o H') X.xe s
def MH:TO:=fun _ H Q=>Q none H
def Qz (t:TE):TO:=fun σ H Q=>t σ H fun x H1=>∃i,x=.int i/\Q (some i) H1
section
variable {X:Cx} {e:Expr} {te:TE} {lo hi:Option Expr} {tl th:TO} {pos p2:Pos}
theorem D9:PO X none MH:=by
 intro pins s σ H Q I h
 rw[evalPart_none]
 exact wpAny_pure ⟨none,H,I,.none,h⟩
theorem Ba (h:PE X e te):PO X (some e) (Qz te):=by
 intro pins s σ H Q I hw
 rw[evalPart_some]
 refine thn (h pins s σ H _ I hw) fun u s1 ⟨x,H1,I1,r1,q1⟩=>?_
 obtain ⟨i,rfl,q⟩:=q1
 obtain ⟨t,rfl⟩:=r1
 exact ⟨some i,H1,I1,.int i t,q⟩
def SlR (X:Cx) (r:V->Option Int->Option Int->Hp->VK->Prop):Prop:=
 ∀(pins:List (Addr×Obj)) (s:Shared) (σ:St) (H:Hp) (x:V) (v vl vu:Value) (lo hi:Option Int) (sl:Addr) (Q:VK),Inv X pins σ H s->RelV x v->s.heap.IsSliceOf sl vl vu .none->IsPart vl lo->IsPart vu hi->r x lo hi H Q->
  ∃T id,typeLookup (.type T) "__getitem__"=pure (some (.builtin id))/\s.TypeIs v T/\wpAny (model X.prog X.w) X.A (getItem v (.ref sl)) (EP X pins σ Q) X.xe s
def tSl (r:V->Option Int->Option Int->Hp->VK->Prop) (te:TE) (tl th:TO):TE:=fun σ H Q=>te σ H fun x H1=>tl σ H1 fun l H2=>th σ H2 fun u H3=>r x l u H3 Q
theorem Bh {r:V->Option Int->Option Int->Hp->VK->Prop} (hr:SlR X r) (he:PE X e te) (hl:PO X lo tl) (hu:PO X hi th):PE X (.Subscript e (.Slice lo hi none p2) pos) (tSl r te tl th):=by
 intro pins s σ H Q I h
 refine Subscript_ (thn (he pins s σ H _ I h) fun v s1 ⟨x,H1,I1,r1,q1⟩=>?_)
 refine wpAny_Slice (thn (hl pins s1 σ H1 _ I1 q1) fun vl s2 ⟨l,H2,I2,pl,q2⟩=>thn (hu pins s2 σ H2 _ I2 q2) fun vu s3 ⟨u,H3,I3,pu,q3⟩=>?_)
 rw[evalPart_none]
 refine wpAny_pure ?_
 have I4:Inv X pins σ H3 {s3 with heap:=s3.heap.push {cls:=.type "slice",data:=.fields #[vl,vu,.none]}}:=I3.kept (t':=s3.toks) fun b ob q=>Heap.get?_push_of_some _ q
 obtain ⟨T,id,hT,ht,hg⟩:=hr pins {s3 with heap:=s3.heap.push {cls:=.type "slice",data:=.fields #[vl,vu,.none]}} σ H3 x v vl vu l u s3.heap.objs.size Q I4 r1 (Heap.IsSliceOf.new ..) pl pu q3
 show wpAny (model X.prog X.w) X.A (subscriptTail e (.Slice lo hi none p2) v (.ref s3.heap.objs.size)) (EP X pins σ Q) X.xe {s3 with heap:=s3.heap.push {cls:=.type "slice",data:=.fields #[vl,vu,.none]}}
 exact tail_any (ops:=[.ref s3.heap.objs.size,v]) ht hT hg (by with_unfolding_all rfl)
def BG (xs:List V) (lo hi:Option Int):List V:=(xs.drop (HT.sIx xs.length 0 lo)).take (HT.sIx xs.length xs.length hi - HT.sIx xs.length 0 lo)
theorem Mq (xs:List V) (lo hi:Option Int):(BG xs lo hi).length<=xs.length:=by
 unfold BG
 rw[List.length_take,List.length_drop]
 omega
def Yg (K:PySem.W.Frag):V->Option Int->Option Int->Hp->VK->Prop:=fun x lo hi H Q=>∃a xs,x=.ref a/\SqT K H a xs/\
 ¬(HT.sIx xs.length 0 lo=0/\HT.sIx xs.length xs.length hi=xs.length)/\∀p,H p=none->Q (.ref p) (upd H p (.tup (BG xs lo hi)))
theorem YG:SlR X (Yg X.K):=by
 intro pins s σ H x v vl vu lo hi sl Q I rx hs pl pu h
 obtain ⟨a,xs,rfl,hx,hw,q⟩:=h
 cases rx
 obtain ⟨its,r,ht,hz⟩:=I.tuple hx
 have hlen:its.toArray.size=xs.length:=by rw[List.size_toArray];exact r.length.symm
 refine ⟨"tuple",_,PyProof.Rows.slot_tuple_getitem.lookup,ht.typeIs,?_⟩
 refine HT.getItem_tuple_cut ht hs pl pu (by rw[hlen];exact hw) ?_ (by rw[hlen];exact hz)
 rw[hlen]
 refine ⟨.ref s.heap.objs.size,_,I.laid (t':=s.toks) (o:=.tup (BG xs lo hi)) (fun b ob q=>Heap.get?_push_of_some _ q) (Nat.le_refl _) ?_,rfl,q _ (I.hok.fresh (Nat.le_refl _))⟩
 exact ⟨Nat.le_trans (Mq xs lo hi) hz,_,(r.drop (HT.sIx xs.length 0 lo)).take (HT.sIx xs.length xs.length hi - HT.sIx xs.length 0 lo),IsTup.new _ _⟩
def Yb (K:PySem.W.Frag):R2:=fun x y H Q=>∃a b xs ys,x=.ref a/\y=.ref b/\SqT K H a xs/\SqT K H b ys/\xs≠[]/\xs.length+ys.length<=sizeLine/\
 (ys=[]->Q (.ref a) H)/\(ys≠[]->∀p,H p=none->Q (.ref p) (upd H p (.tup (xs++ys))))
theorem AS.nil_iff {xs:List V} {us:List Value} (r:AS xs us):us=[]↔xs=[]:=by
 cases r with
 |nil=>simp
 |cons _ _=>simp
theorem XF:OpR X (binaryOp .Add) (Yb X.K):=by
 intro pins s σ H x y v u Q I rx ry h
 obtain ⟨a,b,xs,ys,rfl,rfl,ha,hb,hx,hz,q1,q2⟩:=h
 cases rx
 cases ry
 obtain ⟨its,r1,p1,_⟩:=I.tuple ha
 obtain ⟨its2,r2,p2,_⟩:=I.tuple hb
 refine HT.cat_tup p1 p2 (fun z=>hx (r1.nil_iff.mp z)) (fun z=>⟨.ref a,H,I,rfl,q1 (r2.nil_iff.mp z)⟩) (fun z=>?_) (by rw[<-r1.length,<-r2.length];exact hz)
 refine ⟨.ref s.heap.objs.size,_,I.laid (t':=s.toks) (o:=.tup (xs++ys)) (fun b ob q=>Heap.get?_push_of_some _ q) (Nat.le_refl _) ?_,rfl,q2 (fun w=>z (r2.nil_iff.mpr w)) _ (I.hok.fresh (Nat.le_refl _))⟩
 exact ⟨by rw[List.length_append];exact hz,_,r1.append r2,IsTup.new _ _⟩
end
end L2
namespace L2
open PySem PySem.Spec PyProof.Rows
def ixN (n:Nat) (i:Int):Option Nat:=if 0<=i then (if i<n then some i.toNat else none) else if -(n:Int)<=i then some (i+n).toNat else none
def atI {α:Type} (xs:List α) (i:Int):Option α:=(ixN xs.length i).bind fun j=>xs[j]?
theorem Tf {n:Nat} {i:Int} {j:Nat} (h:ixN n i=some j):seqIndex? i n=some j/\j<n/\-(n:Int)<=i/\i<n:=by
 unfold ixN at h
 by_cases h0:0<=i
 ·rw[if_pos h0]at h
  by_cases h1:i<n
  ·rw[if_pos h1]at h
   have e:i.toNat=j:=Option.some.inj h
   exact ⟨by rw[seqIndex_of h0 h1,e],by omega,by omega,h1⟩
  ·rw[if_neg h1]at h;cases h
 ·rw[if_neg h0]at h
  by_cases h1:-(n:Int)<=i
  ·rw[if_pos h1]at h
   have e:(i+n).toNat=j:=Option.some.inj h
   exact ⟨by rw[seqIndex_neg (by omega) h1,e],by omega,h1,by omega⟩
  ·rw[if_neg h1]at h;cases h
theorem T9 {α:Type} {xs:List α} {i:Int} {v:α} (h:atI xs i=some v):∃j,seqIndex? i xs.length=some j/\xs[j]?=some v/\j<xs.length/\-(xs.length:Int)<=i/\i<xs.length:=by
 unfold atI at h
 cases e:ixN xs.length i with
 |none=>rw[e]at h;cases h
 |some j=>
  rw[e]at h
  obtain ⟨h1,h2,h3,h4⟩:=Tf e
  exact ⟨j,h1,h,h2,h3,h4⟩
theorem CA {α:Type} {xs:List α} {j:Nat} {v:α} (h:xs[j]?=some v):atI xs (j:Int)=some v:=by
 have hj:j<xs.length:=(List.getElem?_eq_some_iff.mp h).1
 have e:ixN xs.length (j:Int)=some j:=by
  unfold ixN
  rw[if_pos (by omega),if_pos (by omega)];simp
 unfold atI;rw[e];exact h
theorem WM {α:Type} (xs:List α) (v:α):atI (xs++[v]) (-1)=some v:=by
 have hl:(xs++[v]).length=xs.length+1:=by simp
 have e:ixN (xs++[v]).length (-1)=some xs.length:=by
  unfold ixN
  rw[hl,if_neg (by decide),if_pos (by omega)]
  congr 1
  omega
 unfold atI
 rw[e]
 show (xs++[v])[xs.length]?=some v
 simp
def X4 (b:Expr):Prop:=∀o i,subscripted b false o i=operate [o,i] (getItem o i)
def IxR (X:Cx) (r:R2):Prop:=
 ∀(value slice:Expr) (pins:List (Addr×Obj)) (s:Shared) (σ:St) (H:Hp) (x y:V) (v u:Value) (Q:VK),Inv X pins σ H s->RelV x v->RelV y u->r x y H Q->
  subscripted slice false v u=operate [v,u] (getItem v u)->wpAny (model X.prog X.w) X.A (subscriptTail value slice v u) (EP X pins σ Q) X.xe s
def MtR (X:Cx) (id:String) (r:V->List V->Hp->VK->Prop):Prop:=
 ∀(pins:List (Addr×Obj)) (s:Shared) (σ:St) (H:Hp) (x:V) (xs:List V) (v:Value) (us:List Value) (Q:VK),Inv X pins σ H s->RelV x v->AS xs us->r x xs H Q->
  wpAny (model X.prog X.w) X.A (call (.builtin id) (v::us)) (EP X pins σ Q) X.xe s
section
variable {X:Cx} {a b:Expr} {ta tb:TE} {pos:Pos}
theorem AF {r:R2} (hr:IxR X r) (ha:PE X a ta) (hb:PE X b tb) (hs:X4 b):PE X (.Subscript a b pos) (tOp r ta tb):=by
 intro pins s σ H Q I h
 exact Subscript_ (WY ha hb I h fun v u s2 x y H2 I2 rx ry q=>hr a b pins s2 σ H2 x y v u Q I2 rx ry q (hs _ _))
def B6 (K:PySem.W.Frag):R2:=fun x y H Q=>∃p xs i v,x=.ref p/\y=.int i/\SqL K H p xs/\atI xs i=some v/\Q v H
def AU (K:PySem.W.Frag):R2:=fun x y H Q=>∃p xs i v,x=.ref p/\y=.int i/\SqT K H p xs/\atI xs i=some v/\Q v H
theorem Ak:IxR X (B6 X.K):=by
 intro value slice pins s σ H x y v u Q I rx ry h hs
 obtain ⟨p,xs,i,z,rfl,rfl,hq,he,q⟩:=h
 cases rx
 obtain ⟨t,rfl⟩:=ry
 obtain ⟨its,r,pl,hz⟩:=I.list hq
 obtain ⟨j,h1,h2,h3,h4,h5⟩:=T9 he
 obtain ⟨w,ew,rw'⟩:=r.get h2
 have hl:=r.length
 have hn:=M5
 have fin:EP X pins σ Q w s:=⟨z,H,I,rw',q⟩
 by_cases h0:0<=i
 ·have hj:i.toNat=j:=by
   rw[seqIndex_of h0 h5]at h1
   exact Option.some.inj h1
  exact item_listR pl.isList h0 (by omega) (by rw[hj];simpa using ew) fin hs
 ·have hj:(i+(its.toArray.size:Int)).toNat=j:=by
   rw[seqIndex_neg (by omega) h4]at h1
   rw[List.size_toArray,<-hl]
   exact Option.some.inj h1
  exact subscriptTail_builtinR (x:=w) pl.isList.typeIs slot_list_getitem.lookup
   (wpAny_getItem_list_neg (Q:=fun r s'=>r=w/\EP X pins σ Q r s') pl.isList (by omega) (by rw[List.size_toArray]<;>omega) (by omega) (by rw[hj];simpa using ew) ⟨rfl,fin⟩) hs
theorem AL:IxR X (AU X.K):=by
 intro value slice pins s σ H x y v u Q I rx ry h hs
 obtain ⟨p,xs,i,z,rfl,rfl,hq,he,q⟩:=h
 cases rx
 obtain ⟨t,rfl⟩:=ry
 obtain ⟨its,r,pl,hz⟩:=I.tuple hq
 obtain ⟨j,h1,h2,h3,h4,h5⟩:=T9 he
 obtain ⟨w,ew,rw'⟩:=r.get h2
 have hl:=r.length
 have hn:=M5
 have fin:EP X pins σ Q w s:=⟨z,H,I,rw',q⟩
 exact subscriptTail_builtinR (x:=w) pl.typeIs slot_tuple_getitem.lookup
  (getItem_tuple (j:=j) (Q:=fun r s'=>r=w/\EP X pins σ Q r s') pl (by omega) (by omega) (by rw[List.size_toArray,<-hl];exact h1) (by simpa using ew) ⟨rfl,fin⟩) hs
theorem UW (its:List Value) (n j:Nat) (u:Value):Obj.mapSeq (·.setIfInBounds j u) {cls:=.type "list",data:=.seq its.toArray n}={cls:=.type "list",data:=.seq (its.set j u).toArray n}:=by
 simp[Obj.mapSeq]
theorem Inv.lst {pins:List (Addr×Obj)} {σ:St} {H:Hp} {s:Shared} {p:Addr} {xs:List V} (I:Inv X pins σ H s) (h:H p=some (.lst xs)):
  ∃(its:List Value) (n:Nat),AS xs its/\s.heap.get? p=some {cls:=.type "list",data:=.seq its.toArray n}/\xs.length<=sizeLine:=by
 obtain ⟨z,its,n,r,e⟩:=I.hok p _ h
 exact ⟨its,n,r,e,z⟩
theorem Inv.lstUpd {pins:List (Addr×Obj)} {σ:St} {H:Hp} {s:Shared} {p:Addr} {xs ys:List V} {its its':List Value} {n n':Nat} {f:Obj->Obj} (I:Inv X pins σ H s) (h:H p=some (.lst xs))
  (ho:s.heap.get? p=some {cls:=.type "list",data:=.seq its.toArray n}) (hf:f {cls:=.type "list",data:=.seq its.toArray n}={cls:=.type "list",data:=.seq its'.toArray n'}) (r:AS ys its') (hz:ys.length<=sizeLine) (t:Nat):
  Inv X pins σ (upd H p (.lst ys)) {s with heap:=s.heap.update p f,toks:=t}:=by
 have e:(s.heap.update p f).get? p=some {cls:=.type "list",data:=.seq its'.toArray n'}:=by
  rw[Heap.get?_update_self f ho (by rw[hf]<;>rfl),hf]
 refine I.write (x:=p) (e:=p) (by rw[h];trivial) (.inl rfl) (fun b u hb q=>(Heap.get?_update_other _ _ (Ne.symm hb)).trans q) ⟨_,e⟩ ?_
 exact ⟨hz,its',n',r,e⟩
def Qo:V->V->V->Hp->(Hp->Prop)->Prop:=fun o i v H Q=>∃p xs k j,o=.ref p/\i=.int k/\H p=some (.lst xs)/\ixN xs.length k=some j/\Q (upd H p (.lst (xs.set j v)))
theorem RX:YJ X Qo:=by
 intro pins s σ H o i v ov iv u Q I ro ri rv h
 obtain ⟨p,xs,k,j,rfl,rfl,hp,hj,q⟩:=h
 cases ro
 obtain ⟨t,rfl⟩:=ri
 obtain ⟨its,n,r,ho,hz⟩:=I.lst hp
 obtain ⟨h1,h2,h3,h4⟩:=Tf hj
 have hl:=r.length
 have hn:=M5
 have I':Inv X pins σ (upd H p (.lst (xs.set j v))) {s with heap:=s.heap.update p (Obj.mapSeq (·.setIfInBounds j u))}:=
  I.lstUpd hp ho (UW its n j u) (r.set rv j) (by rw[List.length_set];exact hz) s.toks
 by_cases h0:0<=k
 ·have hk:k.toNat=j:=by
   rw[seqIndex_of h0 h4]at h1
   exact Option.some.inj h1
  exact PySem.W.ki_setAt ho h0 (by omega) (by rw[List.size_toArray,<-hl];exact h4) (by rw[hk];exact ⟨_,I',q⟩)
 ·have hk:(k+(its.toArray.size:Int)).toNat=j:=by
   rw[seqIndex_neg (by omega) h3]at h1
   rw[List.size_toArray,<-hl]
   exact Option.some.inj h1
  exact PySem.W.ki_setBack ho (by omega) (by rw[List.size_toArray,<-hl];exact h3) (by omega) (by rw[hk];exact ⟨_,I',q⟩)
theorem SK (lo hi:Option Int) (n:Nat):(sliceBounds lo hi none n).1=((HT.sIx n 0 lo:Nat):Int)/\(sliceBounds lo hi none n).2.1=((HT.sIx n n hi:Nat):Int)/\(sliceBounds lo hi none n).2.2=1:=by
 refine ⟨?_,?_,rfl⟩
 ·cases lo with
  |none=>simp[sliceBounds,HT.sIx]
  |some i=>
   simp only[sliceBounds,HT.sIx,Option.getD_none,show (1:Int)>0 by decide,if_true]
   by_cases h:i<0
   ·simp only[h,if_true]<;>omega
   ·simp only[h,if_false]<;>omega
 ·cases hi with
  |none=>simp[sliceBounds,HT.sIx]
  |some i=>
   simp only[sliceBounds,HT.sIx,Option.getD_none,show (1:Int)>0 by decide,if_true]
   by_cases h:i<0
   ·simp only[h,if_true]<;>omega
   ·simp only[h,if_false]<;>omega
theorem Qd (its:List Value) (lo hi:Option Int):slicePick its.toArray lo hi none=((its.drop (HT.sIx its.length 0 lo)).take (HT.sIx its.length its.length hi - HT.sIx its.length 0 lo)).toArray:=by
 obtain ⟨h1,h2,h3⟩:=SK lo hi its.toArray.size
 unfold slicePick
 rw[h1,h2,h3]
 simp only[sliceRange_one,pick_run,List.size_toArray]<;>rfl
def HZ (K:PySem.W.Frag):V->Option Int->Option Int->Hp->VK->Prop:=fun x lo hi H Q=>∃a xs,x=.ref a/\SqL K H a xs/\∀p,H p=none->Q (.ref p) (upd H p (.lst (BG xs lo hi)))
theorem Fa:SlR X (HZ X.K):=by
 intro pins s σ H x v vl vu lo hi sl Q I rx hs pl pu h
 obtain ⟨a,xs,rfl,hx,q⟩:=h
 cases rx
 obtain ⟨its,r,ht,hz⟩:=I.list hx
 have hlen:=r.length
 refine ⟨"list",_,slot_list_getitem.lookup,ht.isList.typeIs,?_⟩
 refine wpAny_getItem_list_slice ht.isList hs pl pu .none (by simp) ?_ (by rw[List.size_toArray]<;>omega)
 rw[Qd,<-hlen]
 refine ⟨.ref s.heap.objs.size,_,I.laid (t':=s.toks) (o:=.lst (BG xs lo hi)) (fun b ob q=>Heap.get?_push_of_some _ q) (Nat.le_refl _) ?_,rfl,q _ (I.hok.fresh (Nat.le_refl _))⟩
 exact ⟨Nat.le_trans (Mq xs lo hi) hz,_,0,(r.drop (HT.sIx xs.length 0 lo)).take (HT.sIx xs.length xs.length hi - HT.sIx xs.length 0 lo),Heap.get?_push_size _ rfl⟩
def DV:V->Bool
 |.non=>true
 |.bl _=>true
 |.int _=>true
 |.str _=>true
 |_=>false
def eqV:V->V->Bool
 |.non,.non=>true
 |.bl a,.bl b=>a==b
 |.bl a,.int b=>(if a then 1 else 0)==b
 |.int a,.bl b=>a==(if b then 1 else 0)
 |.int a,.int b=>a==b
 |.str a,.str b=>a==b
 |_,_=>false
theorem Y0 {A:Around} {s:Shared} {y x:V} {u v:Value} (ry:RelV y u) (rx:RelV x v) (fy:DV y=true) (fx:DV x=true):SeqAt.EqAt A s u v (eqV y x):=by
 cases y with
 |non=>
  cases ry
  cases x with
  |non=>cases rx;exact SeqAt.EqAt.same _
  |bl b=>cases rx;exact SeqAt.EqAt.none_bool b
  |int b=>obtain ⟨t,rfl⟩:=rx;exact SeqAt.EqAt.none_int b t
  |str b=>obtain ⟨t,rfl⟩:=rx;exact SeqAt.EqAt.none_str b t
  |_=>exact absurd (show false=true from fx) Bool.false_ne_true
 |bl a=>
  cases ry
  cases x with
  |non=>cases rx;exact SeqAt.EqAt.bool_none a
  |bl b=>cases rx;exact SeqAt.EqAt.bool_bool a b
  |int b=>obtain ⟨t,rfl⟩:=rx;exact SeqAt.EqAt.bool_int a b t
  |str b=>obtain ⟨t,rfl⟩:=rx;exact SeqAt.EqAt.bool_str a b t
  |_=>exact absurd (show false=true from fx) Bool.false_ne_true
 |int a=>
  obtain ⟨t',rfl⟩:=ry
  cases x with
  |non=>cases rx;exact SeqAt.EqAt.int_none a t'
  |bl b=>cases rx;exact SeqAt.EqAt.int_bool a t' b
  |int b=>obtain ⟨t,rfl⟩:=rx;exact SeqAt.EqAt.int_int a t' b t
  |str b=>obtain ⟨t,rfl⟩:=rx;exact SeqAt.EqAt.int_str a t' b t
  |_=>exact absurd (show false=true from fx) Bool.false_ne_true
 |str a=>
  obtain ⟨t',rfl⟩:=ry
  cases x with
  |non=>cases rx;exact SeqAt.EqAt.str_none a t'
  |bl b=>cases rx;exact SeqAt.EqAt.str_bool a t' b
  |int b=>obtain ⟨t,rfl⟩:=rx;exact SeqAt.EqAt.str_int a t' b t
  |str b=>obtain ⟨t,rfl⟩:=rx;exact SeqAt.EqAt.str_str a t' b t
  |_=>exact absurd (show false=true from fx) Bool.false_ne_true
 |_=>exact absurd (show false=true from fy) Bool.false_ne_true
def eqU (x:V) (u:Value):Bool:=match u with
 |.none=>eqV .non x
 |.bool b=>eqV (.bl b) x
 |.int i _=>eqV (.int i) x
 |.str z _=>eqV (.str z) x
 |_=>false
theorem OK {x y:V} {u:Value} (r:RelV y u) (f:DV y=true):eqU x u=eqV y x:=by
 cases y with
 |non=>cases r;rfl
 |bl b=>cases r;rfl
 |int i=>obtain ⟨t,rfl⟩:=r;rfl
 |str z=>obtain ⟨t,rfl⟩:=r;rfl
 |_=>exact absurd (show false=true from f) Bool.false_ne_true
theorem Jw {x:V}:∀{xs:List V} {us:List Value},AS xs us->xs.all DV=true->us.any (eqU x)=xs.any fun y=>eqV y x
 |_,_,.nil,_=>rfl
 |y::xs,u::us,.cons r t,f=>by
  rw[List.all_cons,Bool.and_eq_true]at f
  rw[List.any_cons,List.any_cons,OK r f.1,Jw t f.2]
theorem Gg {A:Around} {s:Shared} {x:V} {v:Value} (rx:RelV x v) (fx:DV x=true):∀{xs:List V} {us:List Value},AS xs us->xs.all DV=true->∀u∈us,SeqAt.EqAt A s u v (eqU x u)
 |_,_,.nil,_=>fun u hu=>by cases hu
 |y::xs,u::us,.cons r t,f=>fun u' hu=>by
  rw[List.all_cons,Bool.and_eq_true]at f
  rcases List.mem_cons.mp hu with rfl|hu
  ·rw[OK r f.1];exact Y0 r rx f.1 fx
  ·exact Gg rx fx t f.2 u' hu
def inV (x:V) (xs:List V):Bool:=xs.any fun y=>eqV y x
def rIn (K:PySem.W.Frag) (neg:Bool):R2:=fun x y H Q=>∃p xs,y=.ref p/\(SqL K H p xs\/SqT K H p xs)/\DV x=true/\xs.all DV=true/\Q (.bl (if neg then !inV x xs else inV x xs)) H
theorem Dj:OpR X (compareOp .In) (rIn X.K false):=by
 intro pins s σ H x y v u Q I rx ry h
 obtain ⟨p,xs,rfl,hq,fx,fs,q⟩:=h
 cases ry
 rcases hq with hq|hq
 ·obtain ⟨its,r,pl,hz⟩:=I.list hq
  refine SeqAt.in_listAt (eqU x) pl.isList (fun w hw=>Gg rx fx r fs w (by simpa using hw)) ⟨.bl _,H,I,rfl,?_⟩
  rw[show its.toArray.any (eqU x)=its.any (eqU x) by simp,Jw r fs]
  exact q
 ·obtain ⟨its,r,pl,hz⟩:=I.tuple hq
  refine SeqAt.in_tupleAt (eqU x) pl (fun w hw=>Gg rx fx r fs w (by simpa using hw)) ⟨.bl _,H,I,rfl,?_⟩
  rw[show its.toArray.any (eqU x)=its.any (eqU x) by simp,Jw r fs]
  exact q
theorem Rm:OpR X (compareOp .NotIn) (rIn X.K true):=by
 intro pins s σ H x y v u Q I rx ry h
 obtain ⟨p,xs,rfl,hq,fx,fs,q⟩:=h
 cases ry
 rcases hq with hq|hq
 ·obtain ⟨its,r,pl,hz⟩:=I.list hq
  refine SeqAt.notIn_listAt (eqU x) pl.isList (fun w hw=>Gg rx fx r fs w (by simpa using hw)) ⟨.bl _,H,I,rfl,?_⟩
  rw[show its.toArray.any (eqU x)=its.any (eqU x) by simp,Jw r fs]
  exact q
 ·obtain ⟨its,r,pl,hz⟩:=I.tuple hq
  refine SeqAt.notIn_tupleAt (eqU x) pl (fun w hw=>Gg rx fx r fs w (by simpa using hw)) ⟨.bl _,H,I,rfl,?_⟩
  rw[show its.toArray.any (eqU x)=its.any (eqU x) by simp,Jw r fs]
  exact q
theorem AJ:Gp X (.builtin "len") (fun xs H Q=>∃p ys,xs=[.ref p]/\(SqL X.K H p ys\/SqT X.K H p ys)/\Q (.int ys.length) H):=by
 intro pins s σ H xs us Q I r h
 obtain ⟨p,ys,rfl,hq,q⟩:=h
 obtain ⟨u,rfl,rx⟩:=vals1 r
 cases rx
 have hn:=M5
 rcases hq with hq|hq
 ·obtain ⟨its,r',pl,hz⟩:=I.list hq
  have hlen:=r'.length
  exact Calls.call_len_list pl.isList (by simp only[List.size_toArray]<;>omega) ⟨.int ys.length,H,I.tok _,⟨s.toks+1,by rw[List.size_toArray,hlen]⟩,q⟩
 ·obtain ⟨its,r',pl,hz⟩:=I.tuple hq
  have hlen:=r'.length
  exact len_tuple pl (by simp only[List.size_toArray]<;>omega) ⟨.int ys.length,H,I.tok _,⟨s.toks+1,by rw[List.size_toArray,hlen]⟩,q⟩
theorem G4:Gp X (.type "list") (fun xs H Q=>∃p ys,xs=[.ref p]/\(SqL X.K H p ys\/SqT X.K H p ys)/\∀l,H l=none->Q (.ref l) (upd H l (.lst ys))):=by
 intro pins s σ H xs us Q I r h
 obtain ⟨p,ys,rfl,hq,q⟩:=h
 obtain ⟨u,rfl,rx⟩:=vals1 r
 cases rx
 have fin:∀(its:List Value),AS ys its->ys.length<=sizeLine->∀(h':Heap) (c':Nat),(∀b o',s.heap.get? b=some o'->h'.get? b=some o')->
   h'.get? s.heap.objs.size=some {cls:=.type "list",dict:=none,data:=.seq its.toArray c',slots:=#[]}->EP X pins σ Q (.ref s.heap.objs.size) {s with heap:=h'}:=fun its r' hz h' c' kp e=>
  ⟨.ref s.heap.objs.size,_,I.laid (t':=s.toks) kp (Nat.le_refl _) (show BV X.prog X.w _ h' _ (.lst ys) from ⟨hz,its,c',r',e⟩),rfl,q _ (I.hok.fresh (Nat.le_refl _))⟩
 rcases hq with hq|hq
 ·obtain ⟨its,r',pl,hz⟩:=I.list hq
  have hlen:=r'.length
  obtain ⟨o,ho,hc,n,hd⟩:=pl.isList
  exact call_list_seq p (.inl rfl) ho hc hd (fun h' c' kp e=>fin its r' hz h' c' kp e) (by simp only[List.size_toArray]<;>omega)
 ·obtain ⟨its,r',pl,hz⟩:=I.tuple hq
  have hlen:=r'.length
  obtain ⟨o,ho,hc,n,hd⟩:=pl
  exact call_list_seq p (.inr rfl) ho hc hd (fun h' c' kp e=>fin its r' hz h' c' kp e) (by simp only[List.size_toArray]<;>omega)
theorem E4:Gp X (.type "tuple") (fun xs H Q=>∃p ys,xs=[.ref p]/\((SqL X.K H p ys/\∀l,H l=none->Q (.ref l) (upd H l (.tup ys)))\/(SqT X.K H p ys/\Q (.ref p) H))):=by
 intro pins s σ H xs us Q I r h
 obtain ⟨p,ys,rfl,h⟩:=h
 obtain ⟨u,rfl,rx⟩:=vals1 r
 cases rx
 rcases h with ⟨hq,q⟩|⟨hq,q⟩
 ·obtain ⟨its,r',pl,hz⟩:=I.list hq
  have hlen:=r'.length
  refine call_tuple_list pl.isList (fun h' kp=>?_) (by simp only[List.size_toArray]<;>omega)
  have I1:Inv X pins σ H {s with heap:=h'}:=I.kept (t':=s.toks) kp
  have I2:Inv X pins σ (upd H h'.objs.size (.tup ys)) {s with heap:=h'.push {cls:=.type "tuple",data:=.seq its.toArray}}:=
   I1.laid (t':=s.toks) (fun b o e=>Heap.get?_push_of_some _ e) (Nat.le_refl _) (show BV X.prog X.w _ _ _ (.tup ys) from ⟨hz,its,r',IsTup.new _ _⟩)
  exact ⟨.ref h'.objs.size,_,I2,rfl,q _ (I1.hok.fresh (Nat.le_refl _))⟩
 ·obtain ⟨its,r',pl,hz⟩:=I.tuple hq
  exact call_tuple_same pl ⟨.ref p,H,I,rfl,q⟩
def tyV (K:PySem.W.Frag) (T:String) (x:V) (H:Hp):Prop:=match x with
 |.str _=>T="str"
 |.int _=>T="int"
 |.ref p=>(T="list"/\∃xs,SqL K H p xs)\/(T="tuple"/\∃o,K.lookup p=some o/\o.cls=.type "tuple"/\o.dict=none)\/
   (T="dict"/\((∃kvs,H p=some (.dK kvs))\/∃kvs,H p=some (.dT kvs)))\/(T="set"/\∃S n,H p=some (.set S n))
 |_=>False
theorem Xv {pins:List (Addr×Obj)} {σ:St} {H:Hp} {s:Shared} {T:String} {x:V} {v:Value} (I:Inv X pins σ H s) (r:RelV x v) (ty:tyV X.K T x H):
  s.TypeIs v T/\∀a,v=.ref a->∃ob,s.heap.get? a=some ob/\ob.dict=none:=by
 cases x with
 |str z=>
  obtain ⟨t,rfl⟩:=r
  cases (show T="str" from ty)
  exact ⟨typeIs_str s z t,fun _ e=>nomatch e⟩
 |int i=>
  obtain ⟨t,rfl⟩:=r
  cases (show T="int" from ty)
  exact ⟨typeIs_int s i t,fun _ e=>nomatch e⟩
 |ref p=>
  cases r
  rcases ty with ⟨rfl,xs,hq⟩|⟨rfl,o,hk,hc,hd⟩|⟨rfl,hk⟩|⟨rfl,S,n,hk⟩
  ·obtain ⟨its,_,pl,_⟩:=I.list hq
   refine ⟨pl.isList.typeIs,fun a e=>?_⟩
   cases e
   obtain ⟨o,n,e,c,hd,_⟩:=pl
   exact ⟨o,e,hd⟩
  ·refine ⟨⟨o,I.kIn p o hk,hc⟩,fun a e=>?_⟩
   cases e
   exact ⟨o,I.kIn _ o hk,hd⟩
  ·have z:∃o,s.heap.get? p=some o/\o.ExactDict:=by
    rcases hk with ⟨kvs,hk⟩|⟨kvs,hk⟩
    ·obtain ⟨_,_,_,_,o,_,_,e,ex,_⟩:=I.hok p _ hk
     exact ⟨o,e,ex⟩
    ·obtain ⟨_,_,_,_,o,_,_,e,ex,_⟩:=I.hok p _ hk
     exact ⟨o,e,ex⟩
   obtain ⟨o,e,ex⟩:=z
   refine ⟨⟨o,e,ex.1⟩,fun a e2=>?_⟩
   cases e2
   exact ⟨o,e,ex.2.1⟩
  ·obtain ⟨o,_,_,_,e,ex,_⟩:=I.hok p _ hk
   refine ⟨⟨o,e,ex.1⟩,fun a e2=>?_⟩
   cases e2
   exact ⟨o,e,ex.2.1⟩
 |_=>exact False.elim ty
def tBM (K:PySem.W.Frag) (T:String) (r:V->List V->Hp->VK->Prop) (to:TE) (t:TA):TE:=fun σ H Q=>to σ H fun x H1=>tyV K T x H1/\t σ H1 fun xs H2=>r x xs H2 Q
variable {o e:Expr} {es:List Expr} {to:TE} {t:TA} {name:Str} {apos cpos:Pos} {T id:String} {r:V->List V->Hp->VK->Prop}
theorem Es (pa:PlainAttrs T) (slot:Slot T name id) (hty:typeOf (.builtin id)=pure (.type "method_descriptor")) (hm:MtR X id r) (ho:PE X o to) (ha:PA X (e::es) t)
  (hbase:attributeBase o name X.env (eval o X.env)=eval o X.env:=by rfl)
  (hfew:((backTo cpos (starEach (e::es) X.env)).all (fun x=>!x.1)&&(backToKw cpos (keywordEach [] X.env)).all (fun x=>x.1.isSome)
   &&decide ((e::es).length+([]:List Keyword).length+(if ([]:List Keyword).isEmpty then 0 else 1)<30))=true:=by rfl)
  (hline:(apos.endLine==cpos.line)=true:=by rfl) (hs:starEach (e::es) X.env=(false,eval e X.env)::starEach es X.env:=by rfl) (hplain:(backTo cpos (starEach es X.env)).any (·.1)=false:=by rfl):
  PE X (.Call (.Attribute o name apos) (e::es) [] cpos) (tBM X.K T r to t):=by
 intro pins s σ H Q I h
 refine wpAny_Call_method_late hbase hfew hline rfl (thn (ho pins s σ H _ I h) fun v s1 ⟨x,H1,I1,r1,ty,q1⟩=>?_)
 obtain ⟨h1,h2⟩:=Xv I1 r1 ty
 refine ⟨T,id,pa,slot,hty,h1,h2,?_⟩
 have hA:=ha cpos pins s1 σ H1 _ I1 q1
 rw[hs]at hA ⊢
 refine Calls.callWith_builtin (by show (false||(backTo cpos (starEach es X.env)).any (·.1))=false;rw[hplain]<;>rfl) (Calls.evalArgs_plain ?_)
 exact thn hA fun us s2 ⟨vs,H2,I2,r2,q2⟩=>hm pins s2 σ H2 x vs v us Q I2 r1 r2 q2
end
end L2
namespace L2
open PySem PySem.Spec PyProof.Rows
def MtM (X:Cx) (id:String) (r:V->List V->Hp->VK->Prop):Prop:=
 ∀(pins:List (Addr×Obj)) (s:Shared) (σ:St) (H:Hp) (x:V) (xs:List V) (v:Value) (us:List Value) (Q:VK),Inv X pins σ H s->RelV x v->AS xs us->r x xs H Q->
  wpAny (model X.prog X.w) X.A (call (.builtin id) (v::us)) (EP X pins σ Q) X.xe s
theorem AS.one:∀{x:V} {us:List Value},AS [x] us->∃u,us=[u]/\RelV x u
 |_,_,.cons r .nil=>⟨_,rfl,r⟩
section
variable {X:Cx} {pins:List (Addr×Obj)} {σ:St} {H:Hp} {s:Shared} {l b:Addr} {xs ys zs:List V}
theorem Inv.lset {its its':List Value} {n:Nat} {f:Array Value->Array Value} {t':Nat} (I:Inv X pins σ H s) (hH:H l=some (.lst xs))
  (e:s.heap.get? l=some {cls:=.type "list",data:=.seq its.toArray n}) (hf:f its.toArray=its'.toArray) (hv:AS ys its') (hz:ys.length<=sizeLine):
  Inv X pins σ (upd H l (.lst ys)) {s with heap:=s.heap.update l (Obj.mapSeq f),toks:=t'}:=by
 have q:=PySem.IsL.update e f
 rw[hf]at q
 refine I.write (x:=l) (e:=l) (by rw[hH];exact trivial) (.inl rfl) (fun b' u hb hu=>(Heap.get?_update_other s.heap (Obj.mapSeq f) (Ne.symm hb)).trans hu) ⟨_,q⟩ ?_
 exact ⟨hz,its',_,hv,q⟩
theorem Inv.lnew {its:List Value} {t':Nat} (I:Inv X pins σ H s) (hv:AS ys its) (hz:ys.length<=sizeLine):
  Inv X pins σ (upd H s.heap.objs.size (.lst ys)) {s with heap:=s.heap.push {cls:=.type "list",data:=.seq its.toArray},toks:=t'}:=
 I.laid (fun _ _ q=>Heap.get?_push_of_some _ q) (Nat.le_refl _) ⟨hz,its,0,hv,Heap.get?_push_size _ rfl⟩
theorem Inv.fresh (I:Inv X pins σ H s):H s.heap.objs.size=none:=I.hok.fresh (Nat.le_refl _)
theorem Inv.lstM (I:Inv X pins σ H s) (hH:H l=some (.lst xs)):xs.length<=sizeLine/\∃(its:List Value) (n:Nat),AS xs its/\xs.length=its.length/\s.heap.get? l=some {cls:=.type "list",data:=.seq its.toArray n}:=by
 obtain ⟨z,its,n,r,e⟩:=I.hok l _ hH
 exact ⟨z,its,n,r,r.length,e⟩
theorem S8 {n:Nat} (h:n<=sizeLine):Builtin.List.listTooLong n=false:=by
 unfold Builtin.List.listTooLong
 exact decide_eq_false (by omega)
end
section
variable {X:Cx}
def ME:V->List V->Hp->VK->Prop:=fun x vs H Q=>∃l xs y,x=.ref l/\vs=[y]/\H l=some (.lst xs)/\xs.length<sizeLine/\Q .non (upd H l (.lst (xs++[y])))
theorem Dk:MtM X "list.append" ME:=by
 intro pins s σ H x vs v us Q I rx rv h
 obtain ⟨l,xs,y,rfl,rfl,hH,hz,q⟩:=h
 cases rx
 obtain ⟨u,rfl,ru⟩:=rv.one
 obtain ⟨z,its,n,r,hl,e⟩:=I.lstM hH
 refine call_meets F.slot_list_append ⟨_,e,rfl⟩ F.entry_list_append (F.args_list_append_2 _ _) (PySem.list_append l its.toArray n u (by rw[List.size_toArray];omega)) ⟨e,?_⟩
 refine ⟨.non,_,I.lset (its':=its++[u]) hH e (by simp) (r.append (.cons ru .nil)) ?_,rfl,q⟩
 rw[List.length_append,List.length_singleton]
 omega
def M8:V->List V->Hp->VK->Prop:=fun x vs H Q=>∃l b xs zs,x=.ref l/\vs=[.ref b]/\H l=some (.lst xs)/\H b=some (.lst zs)/\xs.length+zs.length<=sizeLine/\Q .non (upd H l (.lst (xs++zs)))
theorem Lg:MtM X "list.extend" M8:=by
 intro pins s σ H x vs v us Q I rx rv h
 obtain ⟨l,b,xs,zs,rfl,rfl,hH,hB,hz,q⟩:=h
 cases rx
 obtain ⟨u,rfl,ru⟩:=rv.one
 cases ru
 obtain ⟨z,its,n,r,hl,e⟩:=I.lstM hH
 obtain ⟨z2,its2,n2,r2,hl2,e2⟩:=I.lstM hB
 have hsz:its.toArray.size+its2.toArray.size<=sizeLine:=by rw[List.size_toArray,List.size_toArray];omega
 have hlong:¬(!its.toArray.isEmpty&&Builtin.List.listTooLong (its.toArray.size+its2.toArray.size))=true:=by
  rw[S8 hsz,Bool.and_false]
  exact Bool.false_ne_true
 refine call_meets F.slot_list_extend ⟨_,e,rfl⟩ F.entry_list_extend (F.args_list_extend_2 _ _)
  (AutoSeq1.list_extend_list_list_0 l its.toArray n b its2.toArray n2 hlong (by rw[List.size_toArray];omega) (by omega)) ⟨e,e2,?_⟩
 refine ⟨.non,_,I.lset (its':=its++its2) hH e (by simp) (r.append r2) ?_,rfl,q⟩
 rw[List.length_append]
 omega
def Ud:R2:=fun x y H Q=>∃l b xs zs,x=.ref l/\y=.ref b/\H l=some (.lst xs)/\H b=some (.lst zs)/\xs.length+zs.length<=sizeLine/\∀p,H p=none->Q (.ref p) (upd H p (.lst (xs++zs)))
theorem FA:OpR X (binaryOp .Add) Ud:=by
 intro pins s σ H x y v u Q I rx ry h
 obtain ⟨l,b,xs,zs,rfl,rfl,hH,hB,hz,q⟩:=h
 cases rx
 cases ry
 obtain ⟨z,its,n,r,hl,e⟩:=I.lstM hH
 obtain ⟨z2,its2,n2,r2,hl2,e2⟩:=I.lstM hB
 refine PySem.P.add_list e e2 ?_ (by rw[List.size_toArray,List.size_toArray];omega)
 have ea:its.toArray++its2.toArray=(its++its2).toArray:=by simp
 rw[ea]
 exact ⟨.ref _,_,I.lnew (t':=s.toks) (r.append r2) (by rw[List.length_append];omega),rfl,q _ I.fresh⟩
end
end L2
namespace L2
open PySem PySem.Spec PyProof.Rows
theorem AS.ints:∀{ns:List Int} {us:List Value},AS (ns.map V.int) us->IntsAre us ns
 |[],us,h=>by
  rw[List.map_nil]at h
  cases h
  exact IntsAre.nil
 |n::ns,us,h=>by
  rw[List.map_cons]at h
  cases h with
  |cons r t=>
   obtain ⟨k,rfl⟩:=r
   exact IntsAre.cons n k (AS.ints t)
theorem Ls:∀{us:List Value} {ns:List Int},IntsAre us ns->AS (ns.map V.int) us
 |_,_,.nil=>by rw[List.map_nil];exact Paired.nil
 |_,_,.cons n t h=>by rw[List.map_cons];exact Paired.cons (show RelV (V.int n) (Value.int n t) from ⟨t,rfl⟩) (Ls h)
theorem AS.bls:∀{bs:List Bool} {us:List Value},AS (bs.map V.bl) us->us=bs.map Value.bool
 |[],us,h=>by
  rw[List.map_nil]at h
  cases h
  rfl
 |b::bs,us,h=>by
  rw[List.map_cons]at h
  cases h with
  |cons r t=>
   cases r
   rw[AS.bls t,List.map_cons]
theorem AS.ref1 {a:Addr} {us:List Value} (r:AS [V.ref a] us):us=[Value.ref a]:=by
 cases r with
 |cons r t=>
  cases t
  cases r
  rfl
section
variable {X:Cx}
theorem MM {n:Nat} (h:n<64):n<=sizeLine:=by rw[sizeLine_eq];omega
end
section
variable {X:Cx}
def VM (K:PySem.W.Frag):V->List V->Hp->VK->Prop:=fun x xs H Q=>∃(a:Addr) (ys:List V) (y:V) (j:Nat) (z:V),x=V.ref a/\xs=[y]/\SqL K H a ys/\DV y=true/\ys.all DV=true/\ys[j]?=some z/\eqV z y=true/\
 (∀(m:Nat) (z':V),m<j->ys[m]?=some z'->eqV z' y=false)/\Q (.int (j:Nat)) H
theorem T7 {ys:List V} (f:ys.all DV=true) {j:Nat} {z:V} (h:ys[j]?=some z):DV z=true:=List.all_eq_true.mp f z (List.mem_of_getElem? h)
theorem WA:MtR X "list.index" (VM X.K):=by
 intro pins s σ H x xs v us Q I rx rxs h
 obtain ⟨a,ys,y,j,z,rfl,rfl,hs,fy,fys,hz,hzj,hno,q⟩:=h
 cases rx
 cases rxs with
 |cons ry rt=>
  rename_i uy ut
  cases rt
  obtain ⟨its,rv,⟨⟨cls,dd,data,sl⟩,n,ho,hc,hdn,hd⟩,hlen⟩:=I.list hs
  simp only at hc hd
  subst hc hd
  obtain ⟨u,hu,ru⟩:=rv.get hz
  obtain ⟨hjl,hje⟩:=List.getElem?_eq_some_iff.mp hu
  have hvl:=rv.length
  have hj:j<its.toArray.size:=by simpa using hjl
  have hsl:=sizeLine_eq
  refine call_meets PySem.F.slot_list_index ⟨_,ho,rfl⟩ PySem.F.entry_list_index (PySem.F.args_list_index_2 _ _)
   (SeqAt.list_indexAt a its.toArray n dd sl uy (eqU y) j hj (by omega) ?_ ?_) ⟨ho,fun u' hu'=>Gg ry fy rv fys u' (by simpa using hu'),?_⟩
  ·have e1:its.toArray[j]=u:=by simpa using hje
   rw[e1,OK ru (T7 fys hz)]
   exact hzj
  ·intro m hm hmj
   have hml:m<its.length:=by simpa using hm
   have hmy:m<ys.length:=by omega
   have hy':ys[m]?=some ys[m]:=List.getElem?_eq_getElem hmy
   obtain ⟨u2,hu2,ru2⟩:=rv.get hy'
   obtain ⟨_,hme⟩:=List.getElem?_eq_some_iff.mp hu2
   have e1:its.toArray[m]=u2:=by simpa using hme
   rw[e1,OK ru2 (T7 fys hy')]
   exact hno m _ hmj hy'
  ·exact ⟨.int (j:Nat),H,I.tok _,⟨_,rfl⟩,q⟩
end
theorem SA {prog:Program} {w:World} {A:Around} {E:Value->Shared->Prop} {s:Shared} {l:Addr} {items:Array Value} {Q:Value->Shared->Prop} (hl:s.heap.IsList l items)
  (h:∀s₂:Shared,s₂={s with heap:=s.heap.push {cls:=.type "list_iterator",data:=.fields #[.ref l,.int 0 0]}}->
   (s₂.heap.IsListIter s.heap.objs.size l 0/\s₂.heap.IsList l items)->l≠s.heap.objs.size->Q (.ref s.heap.objs.size) s₂):wpAny (model prog w) A (pyIter (.ref l)) Q E s:=by
 have hlt:l<s.heap.objs.size:=by obtain ⟨_,e,_⟩:=hl;exact Heap.lt_size e
 exact wpAny_pyIter_list hl (h _ rfl ⟨⟨_,Heap.get?_push_size _ rfl,rfl,rfl⟩,hl.push _⟩ (Nat.ne_of_lt hlt))
theorem Ml {prog:Program} {w:World} {A:Around} {bs:List Bool} {its:List Value} (e:its=bs.map Value.bool):
  TruthOf prog w A (fun i v=>its.toArray[i]?=some v) (fun i=>bs.getD i false):=fun i v s Q E hv hq=>by
 have hv':its[i]?=some v:=by simpa using hv
 rw[e,List.getElem?_map]at hv'
 obtain ⟨b,hb,rfl⟩:=Option.map_eq_some_iff.mp hv'
 have hg:bs.getD i false=b:=by rw[List.getD_eq_getElem?_getD,hb]<;>rfl
 have hq':Q (bs.getD i false) s:=hq
 rw[hg]at hq'
 exact wpAny_truthy_bool hq'
theorem any_range:∀bs:List Bool,(List.range bs.length).any (fun i=>bs.getD i false)=bs.any id
 |[]=>rfl
 |b::bs=>by
  rw[List.length_cons,List.range_succ_eq_map,List.any_cons,List.any_map,List.any_cons,<-any_range bs]
  all_goals rfl
theorem all_range:∀bs:List Bool,(List.range bs.length).all (fun i=>bs.getD i false)=bs.all id
 |[]=>rfl
 |b::bs=>by
  rw[List.length_cons,List.range_succ_eq_map,List.all_cons,List.all_map,List.all_cons,<-all_range bs]
  all_goals rfl
section
variable {X:Cx}
def Uk (K:PySem.W.Frag):List V->Hp->VK->Prop:=fun vs H Q=>∃(a:Addr) (bs:List Bool),vs=[V.ref a]/\SqL K H a (bs.map V.bl)/\Q (.bl (bs.any id)) H
def U2 (K:PySem.W.Frag):List V->Hp->VK->Prop:=fun vs H Q=>∃(a:Addr) (bs:List Bool),vs=[V.ref a]/\SqL K H a (bs.map V.bl)/\Q (.bl (bs.all id)) H
theorem Rk (hc:X.calm=true):Gp X (.builtin "any") (Uk X.K):=by
 intro pins s σ H vs us Q I r h
 obtain ⟨a,bs,rfl,hs,q⟩:=h
 obtain ⟨its,rv,hl,_⟩:=I.list hs
 rw[AS.ref1 r]
 have hb:=rv.bls
 refine call_any_walk (SA hl.isList fun s₂ e2 st hne=>?_)
 subst e2
 refine ⟨_,_,_,_,_,_,_,rfl,Walks.list (A:=X.A.in1) (I.ok.hd hc) _ a hne its.toArray,st,Ml hb,fun h' tk hk=>?_⟩
 refine ⟨.bl _,H,I.kept fun b o eo=>hk b o (fun hmem=>?_) (Heap.get?_push_of_some _ eo),?_,q⟩
 ·rcases List.mem_cons.mp hmem with e1|hmem
  ·exact absurd (e1▸Heap.lt_size eo) (Nat.lt_irrefl _)
  ·cases hmem
 ·show Value.bool _=Value.bool _
  rw[<-any_range,hb,List.size_toArray,List.length_map]
theorem YL (hc:X.calm=true):Gp X (.builtin "all") (U2 X.K):=by
 intro pins s σ H vs us Q I r h
 obtain ⟨a,bs,rfl,hs,q⟩:=h
 obtain ⟨its,rv,hl,_⟩:=I.list hs
 rw[AS.ref1 r]
 have hb:=rv.bls
 refine call_all_walk (SA hl.isList fun s₂ e2 st hne=>?_)
 subst e2
 refine ⟨_,_,_,_,_,_,_,rfl,Walks.list (A:=X.A.in1) (I.ok.hd hc) _ a hne its.toArray,st,Ml hb,fun h' tk hk=>?_⟩
 refine ⟨.bl _,H,I.kept fun b o eo=>hk b o (fun hmem=>?_) (Heap.get?_push_of_some _ eo),?_,q⟩
 ·rcases List.mem_cons.mp hmem with e1|hmem
  ·exact absurd (e1▸Heap.lt_size eo) (Nat.lt_irrefl _)
  ·cases hmem
 ·show Value.bool _=Value.bool _
  rw[<-all_range,hb,List.size_toArray,List.length_map]
end
mutual
inductive Dp (K:PySem.W.Frag) (H:Hp):V->PyData->Prop
 |non:Dp K H .non .none
 |bl (b:Bool):Dp K H (.bl b) (.bool b)
 |int (i:Int):Dp K H (.int i) (.int i)
 |str (x:Str):Dp K H (.str x) (.str x)
 |lst {a:Addr} {xs:List V} {ds:List PyData}:SqL K H a xs->J8 K H xs ds->Dp K H (.ref a) (.list ds)
 |tup {a:Addr} {xs:List V} {ds:List PyData}:SqT K H a xs->J8 K H xs ds->Dp K H (.ref a) (.tuple ds)
inductive J8 (K:PySem.W.Frag) (H:Hp):List V->List PyData->Prop
 |nil:J8 K H [] []
 |cons {v:V} {vs:List V} {d:PyData} {ds:List PyData}:Dp K H v d->J8 K H vs ds->J8 K H (v::vs) (d::ds)
end
section
variable {X:Cx} {pins:List (Addr×Obj)} {σ:St} {H:Hp} {s:Shared}
mutual
theorem Dp.reads (I:Inv X pins σ H s):∀(d:PyData) (v:V) (u:Value),Dp X.K H v d->RelV v u->∃as,Reads s.heap u d as
 |.none,_,_,h,r=>by
  cases h
  cases r
  exact ⟨_,Reads.none⟩
 |.bool b,_,_,h,r=>by
  cases h
  cases r
  exact ⟨_,Reads.bool b⟩
 |.int i,_,_,h,r=>by
  cases h
  obtain ⟨t,rfl⟩:=r
  exact ⟨_,Reads.int i t⟩
 |.str x,_,_,h,r=>by
  cases h
  obtain ⟨t,rfl⟩:=r
  exact ⟨_,Reads.str x t⟩
 |.list ds,_,_,h,r=>by
  cases h with
  |lst hs ha=>
   cases r
   obtain ⟨its,rv,⟨o,n,ho,hc,_,hd⟩,_⟩:=I.list hs
   obtain ⟨as,hr⟩:=Dp.readsAll I ds _ its ha rv
   exact ⟨_,Reads.list ho hc hd hr⟩
 |.tuple ds,_,_,h,r=>by
  cases h with
  |tup hs ha=>
   cases r
   obtain ⟨its,rv,⟨o,ho,hc,n,hd⟩,_⟩:=I.tuple hs
   obtain ⟨as,hr⟩:=Dp.readsAll I ds _ its ha rv
   exact ⟨_,Reads.tuple ho hc hd hr⟩
 |.dict _,_,_,h,_=>by cases h
theorem Dp.readsAll (I:Inv X pins σ H s):∀(ds:List PyData) (vs:List V) (us:List Value),J8 X.K H vs ds->AS vs us->∃as,ReadsAll s.heap us ds as
 |[],_,_,h,r=>by
  cases h
  cases r
  exact ⟨_,ReadsAll.nil⟩
 |d::ds,_,_,h,r=>by
  cases h with
  |cons h1 h2=>
   cases r with
   |cons r1 r2=>
    obtain ⟨as,q1⟩:=Dp.reads I d _ _ h1 r1
    obtain ⟨bs,q2⟩:=Dp.readsAll I ds _ _ h2 r2
    exact ⟨_,ReadsAll.cons q1 q2⟩
end
end
section
variable {X:Cx}
def U9 (K:PySem.W.Frag):R2:=fun x y H Q=>∃d e,Dp K H x d/\Dp K H y e/\SeqAt.shaped d=true/\SeqAt.shaped e=true/\Q (.bl (PyData.eqv d e)) H
theorem Rx (hu:X.A.units+64<cLine):OpR X (compareOp .Eq) (U9 X.K):=by
 intro pins s σ H x y v u Q I rx ry h
 obtain ⟨d,e,hd,he,sd,se,q⟩:=h
 obtain ⟨as,r1⟩:=Dp.reads I d x v hd rx
 obtain ⟨bs,r2⟩:=Dp.reads I e y u he ry
 exact SeqAt.compareEq_shaped r1 r2 sd se hu ⟨.bl _,H,I,rfl,q⟩
end
end L2
namespace L2
open PySem PySem.Spec PyProof.Rows
abbrev VS (h:Heap) (c:Addr) (v:Option Value):Prop:=h.IsCell c v
def Ye (scope sc:Scope):Scope:=
 {scope with names:=scope.names.map fun (n,k)=>if (k==.free&&sc.kind==.function&&sc.names.lookup n==some .cell) then (n,.cell) else (n,k)}
def B9 (cells:List (Str×Addr)):List (Str×NameKind)->List (Str×Addr)->List (Str×Addr)
 |[],acc=>acc
 |(n,k)::r,acc=>if k==.free then B9 cells r ((n,(cells.lookup n).getD 0)::acc) else B9 cells r acc
theorem Ly (env:Env) (f:Str×NameKind->List (Str×Addr)->Sem (ForInStep (List (Str×Addr))))
  (hf:∀n k c,f (n,k) c=if k==.free then (do let a <-cellOf env n;pure (.yield ((n,a)::c))) else pure (.yield c)):
  ∀(names:List (Str×NameKind)) (acc:List (Str×Addr)),(∀y∈names,y.2=.free->∃c,env.cells.lookup y.1=some c)->forIn names acc f=pure (B9 env.cells names acc)
 |[],acc,_=>by rw[List.forIn_nil];rfl
 |(n,k)::r,acc,h=>by
  rw[List.forIn_cons,hf]
  have ih:=fun acc=>Ly env f hf r acc fun y hy=>h y (List.mem_cons_of_mem _ hy)
  unfold B9
  by_cases hk:(k==NameKind.free)=true
  ·rw[if_pos hk,if_pos hk]
   obtain ⟨c,hc⟩:=h (n,k) List.mem_cons_self (by simpa using hk)
   have e:cellOf env n=pure c:=by unfold cellOf;rw[hc]
   rw[e]
   have e2:(env.cells.lookup n).getD 0=c:=by rw[hc];rfl
   rw[e2]
   exact ih _
  ·rw[if_neg hk,if_neg hk]
   exact ih _
theorem Ug {scope:Scope} {env:Env} (h:∀y∈scope.names,y.2=.free->∃c,env.cells.lookup y.1=some c):closureFor scope env=pure (B9 env.cells scope.names []):=by
 simp only[closureFor]
 rw[Ly env _ (fun n k c=>rfl) scope.names [] h]
 rfl
theorem mem_lookup {α:Type}:∀{l:List (Str×α)} {n:Str} {c:α},(n,c)∈l->∃c',l.lookup n=some c'
 |(k,v)::r,n,c,h=>by
  rw[List.lookup_cons]
  cases hb:n==k with
  |true=>exact ⟨_,rfl⟩
  |false=>
   rcases List.mem_cons.mp h with e|h
   ·cases e;simp at hb
   ·exact mem_lookup h
theorem Go {cells:List (Str×Addr)}:∀{names:List (Str×NameKind)} {acc:List (Str×Addr)} {n:Str} {c:Addr},(n,c)∈B9 cells names acc->(n,c)∈acc\/((n,.free)∈names/\c=(cells.lookup n).getD 0)
 |[],_,_,_,h=>.inl h
 |(m,k)::r,acc,n,c,h=>by
  unfold B9 at h
  split at h
  ·rename_i hk
   have hk:k=.free:=by simpa using hk
   rcases Go h with h|⟨h1,h2⟩
   ·rcases List.mem_cons.mp h with e|h
    ·cases e;exact .inr ⟨hk▸List.mem_cons_self,rfl⟩
    ·exact .inl h
   ·exact .inr ⟨List.mem_cons_of_mem _ h1,h2⟩
  ·rcases Go h with h|⟨h1,h2⟩
   ·exact .inl h
   ·exact .inr ⟨List.mem_cons_of_mem _ h1,h2⟩
theorem Jf {cells:List (Str×Addr)}:∀{names:List (Str×NameKind)} {acc:List (Str×Addr)} {p:Str×Addr},p∈acc->p∈B9 cells names acc
 |[],_,_,h=>h
 |(m,k)::r,acc,p,h=>by
  unfold B9
  split
  ·exact Jf (List.mem_cons_of_mem _ h)
  ·exact Jf h
theorem Jc {cells:List (Str×Addr)}:∀{names:List (Str×NameKind)} {acc:List (Str×Addr)} {n:Str},(n,.free)∈names->(n,(cells.lookup n).getD 0)∈B9 cells names acc
 |(m,k)::r,acc,n,h=>by
  unfold B9
  rcases List.mem_cons.mp h with e|h
  ·cases e
   exact Jf List.mem_cons_self
  ·split
   ·exact Jc h
   ·exact Jc h
theorem HF:∀{names:List (Str×NameKind)} {h:Heap} {acc:List (Str×Addr)} {x:Str} {c:Addr},(x,c)∈cellsFrom h.objs.size names acc->
  (x,c)∈acc\/((x,.cell)∈names/\h.objs.size<=c/\VS (pushCells h names) c none)
 |[],_,_,_,_,h=>.inl h
 |(n,k)::r,h,acc,x,c,hm=>by
  unfold cellsFrom at hm
  unfold pushCells
  split at hm
  ·rename_i hk
   rw[if_pos hk]
   have hk:k=.cell:=by simpa using hk
   rw[<-Heap.size_push h {cls:=.type "cell",data:=.cell none}]at hm
   rcases HF hm with hm|⟨h1,h2,h3⟩
   ·rcases List.mem_cons.mp hm with e|hm
    ·cases e
     exact .inr ⟨hk▸List.mem_cons_self,Nat.le_refl _,_,pushCells_keeps r _ _ _ (Heap.get?_push_size _ rfl),rfl⟩
    ·exact .inl hm
   ·rw[Heap.size_push]at h2
    exact .inr ⟨List.mem_cons_of_mem _ h1,Nat.le_of_succ_le h2,h3⟩
  ·rename_i hk
   rw[if_neg hk]
   rcases HF hm with hm|⟨h1,h2,h3⟩
   ·exact .inl hm
   ·exact .inr ⟨List.mem_cons_of_mem _ h1,h2,h3⟩
theorem J6:∀{names:List (Str×NameKind)} {n:Nat} {acc:List (Str×Addr)} {p:Str×Addr},p∈acc->p∈cellsFrom n names acc
 |[],_,_,_,h=>h
 |(m,k)::r,n,acc,p,h=>by
  unfold cellsFrom
  split
  ·exact J6 (List.mem_cons_of_mem _ h)
  ·exact J6 h
theorem Lx:∀{names:List (Str×NameKind)} {n:Nat} {acc:List (Str×Addr)} {x:Str},(x,.cell)∈names->∃c,(x,c)∈cellsFrom n names acc
 |(m,k)::r,n,acc,x,h=>by
  unfold cellsFrom
  rcases List.mem_cons.mp h with e|h
  ·cases e
   exact ⟨n,J6 List.mem_cons_self⟩
  ·split
   ·exact Lx h
   ·exact Lx h
theorem Ln:∀{names:List (Str×NameKind)} {h:Heap} {acc:List (Str×Addr)} {x y:Str} {c:Addr},(∀p∈acc,p.2<h.objs.size)->(∀x y c,(x,c)∈acc->(y,c)∈acc->x=y)->
  (x,c)∈cellsFrom h.objs.size names acc->(y,c)∈cellsFrom h.objs.size names acc->x=y
 |[],_,_,_,_,_,_,hi,h1,h2=>hi _ _ _ h1 h2
 |(n,k)::r,h,acc,x,y,c,hl,hi,h1,h2=>by
  unfold cellsFrom at h1 h2
  split at h1
  ·rename_i hk
   rw[if_pos hk]at h2
   rw[<-Heap.size_push h {cls:=.type "cell",data:=.cell none}]at h1 h2
   refine Ln (h:=h.push _) (fun p hp=>?_) (fun x y c a b=>?_) h1 h2
   ·rw[Heap.size_push]
    rcases List.mem_cons.mp hp with rfl|hp
    ·exact Nat.lt_succ_self _
    ·exact Nat.lt_succ_of_lt (hl p hp)
   ·rcases List.mem_cons.mp a with e|a<;>rcases List.mem_cons.mp b with e'|b
    ·cases e;cases e';rfl
    ·cases e;exact absurd (hl _ b) (Nat.lt_irrefl _)
    ·cases e';exact absurd (hl _ a) (Nat.lt_irrefl _)
    ·exact hi _ _ _ a b
  ·rename_i hk
   rw[if_neg hk]at h2
   exact Ln hl hi h1 h2
theorem Sw {M:Model} {A:Around} {E:Value->Shared->Prop} {s:Shared} {scope:Scope} {globals:Addr} {closure:List (Str×Addr)} {qual:Str} {func:Option Addr} {code:Value} {around:Env} {builtins:Addr} {Q:Env->Shared->Prop}
  (h:Q (newEnv scope s.heap.objs.size globals (cellsFrom (s.heap.objs.size+1) scope.names closure) qual func code (some around) builtins)
   {s with heap:=pushCells (s.heap.push {cls:=.type "dict",data:=.dict #[]}) scope.names}):
  wpAny M A (newFunctionEnv scope globals closure [] qual func code (some around) builtins) Q E s:=by
 simp only[newFunctionEnv,Option.isSome_some,if_true]
 refine wpAny_bind (wpAny_alloc ?_)
 refine wpAny_bind (wpAny_layCells _ (fun n k c=>rfl) scope.names closure _ _ ?_)
 rw[show ({s with heap:=s.heap.push {cls:=.type "dict",data:=.dict #[]}}:Shared).heap.objs.size=s.heap.objs.size+1 from Heap.size_push ..]
 rw[List.forIn_nil]
 exact wpAny_bind (wpAny_pure (wpAny_pure h))
theorem Jb {sc:Scope}:∀{names:List (Str×NameKind)} {x:Str} {k:NameKind},
  (names.map fun (n,k)=>if (k==NameKind.free&&sc.kind==.function&&sc.names.lookup n==some .cell) then (n,NameKind.cell) else (n,k)).lookup x=some k->
  ∃k',names.lookup x=some k'/\(k=k'\/(k'=.free/\k=.cell))
 |[],_,_,h=>by simp at h
 |(n,k₀)::r,x,k,h=>by
  have ih:=@Jb sc r x k
  have h':List.lookup x ((if (k₀==NameKind.free&&sc.kind==.function&&sc.names.lookup n==some .cell)=true then (n,NameKind.cell) else (n,k₀))::(r.map _))=some k:=h
  cases hx:x==n with
  |true=>
   simp only[List.lookup_cons,hx]
   by_cases hc:(k₀==NameKind.free&&sc.kind==.function&&sc.names.lookup n==some .cell)=true
   ·rw[if_pos hc]at h'
    simp only[List.lookup_cons,hx]at h'
    cases h'
    simp only[Bool.and_eq_true,beq_iff_eq]at hc
    exact ⟨k₀,rfl,.inr ⟨hc.1.1,rfl⟩⟩
   ·rw[if_neg hc]at h'
    simp only[List.lookup_cons,hx]at h'
    cases h'
    exact ⟨_,rfl,.inl rfl⟩
  |false=>
   simp only[List.lookup_cons,hx]
   by_cases hc:(k₀==NameKind.free&&sc.kind==.function&&sc.names.lookup n==some .cell)=true
   ·rw[if_pos hc]at h'
    simp only[List.lookup_cons,hx]at h'
    exact ih h'
   ·rw[if_neg hc]at h'
    simp only[List.lookup_cons,hx]at h'
    exact ih h'
structure OM (N:List Str) (sc scope:Scope) (own:List (Str×Nat)):Prop where
 kind:scope.kind=.function
 uniq:∀y∈scope.names,scope.names.lookup y.1=some y.2
 ix:∀p∈own,N[p.2]?=some p.1
 free:∀y∈scope.names,y.2=.free->sc.names.lookup y.1=some .cell\/sc.names.lookup y.1=some .free
 own:∀y∈scope.names,y.2=.local\/y.2=.cell->y.1∈own.map (·.1)\/y.1∉N
def BQ (σ:St):List Nat->St
 |[]=>σ
 |v::vs=>(BQ σ vs).set v none
theorem Je (σ:St):∀vs:List Nat,(BQ σ vs).length=σ.length
 |[]=>rfl
 |v::vs=>by unfold BQ;rw[List.length_set,Je σ vs]
theorem Lh {σ:St} {i:Nat} {x:V}:∀{vs:List Nat},(BQ σ vs)[i]?=some (some x)->σ[i]?=some (some x)/\i∉vs
 |[],h=>⟨h,by simp⟩
 |v::vs,h=>by
  unfold BQ at h
  by_cases hi:v=i
  ·subst hi
   by_cases hv:v<(BQ σ vs).length
   ·rw[List.getElem?_set_self hv]at h;cases h
   ·rw[List.getElem?_eq_none (by simpa using hv)]at h;cases h
  ·rw[List.getElem?_set_ne hi]at h
   obtain ⟨h1,h2⟩:=Lh h
   exact ⟨h1,by simp only[List.mem_cons,not_or];exact ⟨fun e=>hi e.symm,h2⟩⟩
abbrev Cx.blk (X:Cx) (s:Shared) (H:Hp) (scope:Scope) (cenv:Env) (fp:List Addr):Cx:={X with s_0:=s,H_0:=H,env:=cenv,outer:=X.stack,ex:=fp,fn:=fun x=>scope.names.lookup x==some .cell,pn:=[],xe:=fun _ _=>False}
section
variable {X:Cx} {pins:List (Addr×Obj)} {σ:St} {H:Hp} {s:Shared}
theorem So {scope:Scope} {own:List (Str×Nat)} {fp:List Addr} (I:Inv X pins σ H s) (ok:OM X.N X.env.scope scope own) (hN:X.N.Nodup) (hfp:∀b∈fp,Ib X pins H b/\b<s.heap.objs.size):
  Inv (X.blk s H scope (compEnvC scope (cellsFrom (s.heap.objs.size+1) scope.names (B9 X.env.cells scope.names [])) s.heap.objs.size X.env) fp) [] (BQ σ (own.map (·.2))) H {s with heap:=pushCells (s.heap.push {cls:=.type "dict",data:=.dict #[]}) scope.names}:=by
 have hfree:∀y∈scope.names,y.2=.free->∃c,X.env.cells.lookup y.1=some c:=fun y hy e=>by
  rcases ok.free y hy e with k|k
  ·exact I.ok.has _ (.inl k)
  ·exact I.ok.has _ (.inr k)
 generalize hcenv:compEnvC scope (cellsFrom (s.heap.objs.size+1) scope.names (B9 X.env.cells scope.names [])) s.heap.objs.size X.env=cenv
 have kp:∀b o,s.heap.get? b=some o->(pushCells (s.heap.push {cls:=.type "dict",data:=.dict #[]}) scope.names).get? b=some o:=fun b o e=>pushCells_keeps _ _ _ _ (Heap.get?_push_of_some _ e)
 have hL:cenv.locals=s.heap.objs.size:=by rw[<-hcenv];rfl
 have hcl:cenv.cells=cellsFrom (s.heap.objs.size+1) scope.names (B9 X.env.cells scope.names []):=by rw[<-hcenv];rfl
 have hsc:cenv.scope=Ye scope X.env.scope:=by rw[<-hcenv];rfl
 rw[<-Heap.size_push s.heap {cls:=.type "dict",data:=.dict #[]}]at hcl
 have cm:∀{y c},(y,c)∈B9 X.env.cells scope.names []->X.env.cells.lookup y=some c/\c<s.heap.objs.size:=fun {y c} hm=>by
  rcases Go hm with hm|⟨h1,rfl⟩
  ·cases hm
  ·obtain ⟨c,hc⟩:=hfree _ h1 rfl
   rw[hc]
   obtain ⟨w,z⟩:=I.cell _ _ hc
   exact ⟨rfl,z.lt⟩
 have mem:∀{y c},cenv.cells.lookup y=some c->(X.env.cells.lookup y=some c/\c<s.heap.objs.size)\/(s.heap.objs.size+1<=c/\VS (pushCells (s.heap.push {cls:=.type "dict",data:=.dict #[]}) scope.names) c none):=fun {y c} e=>by
  rw[hcl]at e
  rcases HF (PySem.mem_of_lookup e) with hm|⟨_,h2,h3⟩
  ·exact .inl (cm hm)
  ·rw[Heap.size_push]at h2;exact .inr ⟨h2,h3⟩
 have look:∀{y},scope.names.lookup y=some .free->∃c,cenv.cells.lookup y=some c/\X.env.cells.lookup y=some c:=fun {y} hl=>by
  have hy:(y,NameKind.free)∈scope.names:=PySem.mem_of_lookup hl
  obtain ⟨c',e'⟩:=mem_lookup (J6 (names:=scope.names) (n:=(s.heap.push {cls:=.type "dict",data:=.dict #[]}).objs.size) (Jc (cells:=X.env.cells) (acc:=[]) hy))
  rw[<-hcl]at e'
  refine ⟨c',e',?_⟩
  rw[hcl]at e'
  rcases HF (PySem.mem_of_lookup e') with hm|⟨h1,_,_⟩
  ·exact (cm hm).1
  ·have:=ok.uniq _ h1
   rw[hl]at this;cases this
 have okB:(X.blk s H scope cenv fp).Ok:=by
  refine ⟨I.ok.mod,by show cenv.scope.kind=_;rw[hsc];exact ok.kind,by show cenv.globals=_;rw[<-hcenv];exact I.ok.glob,by show cenv.builtins=_;rw[<-hcenv];exact I.ok.blt,by show s.heap.objs.size<=cenv.locals;rw[hL];exact Nat.le_refl _,
   fun y z c e1 e2=>?_,fun y hy=>?_,fun y c z e=>?_,I.ok.hd,I.ok.frames,.inl rfl,fun b hb=>⟨?_,fun y c e z=>?_⟩,I.bs,Nat.le_trans I.ok.bsz I.sz,fun b o e hb=>?_,fun b hb z=>?_,I.stack,I.stkFree⟩
  ·have e1:cenv.cells.lookup y=some c:=e1
   have e2:cenv.cells.lookup z=some c:=e2
   rw[hcl]at e1 e2
   refine Ln (fun p hp=>?_) (fun y z c a b=>I.ok.inj y z c (cm a).1 (cm b).1) (PySem.mem_of_lookup e1) (PySem.mem_of_lookup e2)
   rw[Heap.size_push]
   exact Nat.lt_succ_of_lt (cm (y:=p.1) (c:=p.2) hp).2
  ·show ∃c,cenv.cells.lookup y=some c
   have key:∀k,cenv.kindOf y=some k->(k=.cell\/k=.free)->∃c,cenv.cells.lookup y=some c:=fun k hk hk'=>by
    unfold Env.kindOf at hk
    rw[hsc]at hk
    obtain ⟨k',e,r⟩:=Jb hk
    have:k'=.cell\/k'=.free:=by
     rcases r with rfl|⟨rfl,_⟩
     ·exact hk'
     ·exact .inr rfl
    rcases this with rfl|rfl
    ·obtain ⟨c,hm⟩:=Lx (n:=(s.heap.push {cls:=.type "dict",data:=.dict #[]}).objs.size) (acc:=B9 X.env.cells scope.names []) (PySem.mem_of_lookup e)
     obtain ⟨c',e'⟩:=mem_lookup hm
     exact ⟨c',by rw[hcl];exact e'⟩
    ·obtain ⟨c,h1,_⟩:=look e
     exact ⟨c,h1⟩
   rcases hy with hy|hy
   ·exact key _ hy (.inl rfl)
   ·exact key _ hy (.inr rfl)
  ·have z:(scope.names.lookup y==some NameKind.cell)=true:=z
   have z:scope.names.lookup y=some .cell:=by simpa using z
   have e:cenv.cells.lookup y=some c:=e
   rw[hcl]at e
   rcases HF (PySem.mem_of_lookup e) with hm|⟨_,h2,_⟩
   ·rcases Go hm with hm|⟨h1,_⟩
    ·cases hm
    ·have q:=ok.uniq _ h1
     rw[z]at q;cases q
   ·rw[Heap.size_push]at h2
    exact Nat.le_of_succ_le h2
  ·show b≠cenv.locals
   rw[hL];exact Nat.ne_of_lt (hfp b hb).2
  ·have e:cenv.cells.lookup y=some c:=e
   rcases mem e with ⟨h1,_⟩|⟨h1,_⟩
   ·exact (hfp b hb).1.2.2.2.2.1 y c h1 z
   ·have h2:s.heap.objs.size+1<=b:=by rw[<-z];exact h1
    exact absurd (Nat.lt_of_lt_of_le (hfp b hb).2 (Nat.le_of_succ_le h2)) (Nat.lt_irrefl _)
  ·rcases (hfp b hb).1.2.2.2.1 with z|z
   ·exact I.ok.noex b o e z
   ·exact absurd (Nat.lt_of_lt_of_le (Heap.lt_size e) (Nat.le_trans I.ok.bsz z)) (Nat.lt_irrefl _)
  ·rcases List.mem_cons.mp (I.stkSub b z) with z|z
   ·exact (hfp b hb).1.2.1 z
   ·exact (hfp b hb).1.2.2.1 z
 refine ⟨okB,rfl,I.bare,Un.kept kp,⟨fun _=>none,?_,fun i y av e1 e2 e3=>?_⟩,fun y c e=>?_,?_,fun y c e=>?_,fun p hp=>?_,I.hok.kept kp,by rw[Je];exact I.len⟩
 ·show Heap.Ns _ cenv.locals _
  rw[hL]
  exact Heap.Ns.keeps (Heap.Ns.new ..) fun b o e=>pushCells_keeps _ _ _ _ e
 ·obtain ⟨e2,hne⟩:=Lh e2
  have hfr:scope.names.lookup y=some .free/\(cenv.kindOf y=some .cell\/cenv.kindOf y=some .free):=by
   have key:∀k,cenv.scope.names.lookup y=some k->k=.local\/k=.cell\/k=.free->scope.names.lookup y=some .free/\(cenv.kindOf y=some .cell\/cenv.kindOf y=some .free):=fun k hk hk'=>by
    have hk0:=hk
    rw[hsc]at hk
    obtain ⟨k',e,r⟩:=Jb hk
    have no:¬(k'=.local\/k'=.cell):=fun hh=>by
     rcases ok.own _ (PySem.mem_of_lookup e) hh with e'|e'
     ·obtain ⟨p,hp,hpy⟩:=List.mem_map.mp e'
      have e3:=ok.ix p hp
      have:p.1=y:=hpy
      rw[this]at e3
      exact hne (List.mem_map.mpr ⟨p,hp,NN hN e3 e1⟩)
     ·exact e' (List.mem_of_getElem? e1)
    rcases r with rfl|⟨rfl,rfl⟩
    ·rcases hk' with rfl|rfl|rfl
     ·exact absurd (.inl rfl) no
     ·exact absurd (.inr rfl) no
     ·exact ⟨e,.inr hk0⟩
    ·exact ⟨e,.inl hk0⟩
   have e3:Vis cenv.scope y:=e3
   rcases e3 with e3|e3|e3
   ·exact key _ e3 (.inl rfl)
   ·exact key _ e3 (.inr (.inl rfl))
   ·exact key _ e3 (.inr (.inr rfl))
  obtain ⟨m,hn,hl⟩:=I.loc
  have hvis:Vis X.env.scope y:=(ok.free _ (PySem.mem_of_lookup hfr.1) rfl).elim (fun k=>.inr (.inl k)) (fun k=>.inr (.inr k))
  obtain ⟨w,r,q⟩:=hl i y av e1 e2 hvis
  refine ⟨w,r,.inr ⟨hfr.2,?_⟩⟩
  obtain ⟨c,h1,h2⟩:=look hfr.1
  rcases q with ⟨k,_⟩|⟨_,c',e',z⟩
  ·have k:X.env.scope.names.lookup y=some .local:=k
   rcases ok.free _ (PySem.mem_of_lookup hfr.1) rfl with k'|k'<;>rw[show X.env.scope.names.lookup y=_ from k']at k<;>cases k
  ·rw[h2]at e';cases e'
   exact ⟨c,h1,z.keeps kp⟩
 ·have e:cenv.cells.lookup y=some c:=e
  rcases mem e with ⟨h1,_⟩|⟨_,z⟩
  ·obtain ⟨w,z⟩:=I.cell y c h1
   exact ⟨w,z.keeps kp⟩
  ·exact ⟨_,z⟩
 ·show H cenv.locals=none
  rw[hL];exact I.hok.fresh (Nat.le_refl _)
 ·have e:cenv.cells.lookup y=some c:=e
  rcases mem e with ⟨h1,_⟩|⟨h1,_⟩
  ·exact I.freeC y c h1
  ·exact I.hok.fresh (Nat.le_of_succ_le h1)
 ·exact absurd (show p∈([]:List (Addr×Obj))++[] from hp) (by simp)
theorem YD {E:Value->Shared->Prop} {D:Addr} {xs:List V} {y:V} {v:Value} {Q:Value->Shared->Prop} (I:Inv X pins σ H s) (hD:H D=some (.lst xs)) (hz:xs.length<sizeLine) (r:RelV y v)
  (h:∀s',Inv X pins σ (upd H D (.lst (xs++[y]))) s'->Q .none s'):wpAny (model X.prog X.w) X.A (call (.builtin "list.append") [.ref D,v]) Q E s:=by
 obtain ⟨hz',its,n,ri,e⟩:=I.hok D _ hD
 have hl:=ri.length
 refine append_at (hsz:=by rw[List.size_toArray];omega) e fun h' sb ho'=>?_
 refine h {s with heap:=h'} (I.write (t':=s.toks) (by rw[hD];trivial) (.inl rfl) (fun b u hb q=>(sb.2 b hb).trans q) ⟨_,ho'⟩ ⟨by rw[List.length_append];exact hz,its++[v],n+1,ri.append (.cons r .nil),?_⟩)
 rw[ho']
 simp
def PTs (X:Cx) (ifs:List Expr) (t:TT):Prop:=
 ∀(pins:List (Addr×Obj)) (s:Shared) (σ:St) (H:Hp) (Q:Bool->Hp->Prop),Inv X pins σ H s->t σ H Q->
  wpAny (model X.prog X.w) X.A (forIn ifs true fun c r=>if r=true then do let ok <-isTrue c X.env (eval c X.env);pure (ForInStep.yield ok) else pure (ForInStep.yield r)) (TP X pins σ Q) X.xe s
def SG:TT:=fun _ H Q=>Q true H
theorem Fc:PTs X [] SG:=fun _ _ _ H _ I h=>wpAny_tests_nil ⟨H,I,h⟩
theorem ML {c:Expr} {t:TT} (h:PT X c t):PTs X [c] t:=fun pins s σ H Q I hw=>wpAny_tests_one (h pins s σ H Q I hw)
end
theorem PR {α:Type} {t:Sem α} {Q Q':α->Shared->Prop} {M:Model} {A:Around} {E:Value->Shared->Prop} {s:Shared} (h:wpAny M A t Q (fun _ _=>False) s) (hQ:∀a s,Q a s->Q' a s):wpAny M A t Q' E s:=wpAny_mono h hQ fun _ _ z=>False.elim z
theorem SE {prog:Program} {w:World} {A:Around} {R:Result->Shared->Prop} {s:Shared} {elt target iter:Expr} {ifs:List Expr} {scope:Scope} {pos:Pos} {it acc:Value} {env:Env} (I:Nat->Shared->Prop)
  (turn:∀n s,I n s->wpAny (model prog w) A (pyNext it) (fun r s₁=>match r with
   |none=>R (.ok .next) s₁
   |some v=>wpAny (model prog w) A (letOwnedTupleGo target it v) (fun _ s₁'=>wpAny (model prog w) A (assign target env v) (fun _ s₂=>
     wpAny (model prog w) A (forIn ifs true fun c r=>if r=true then do let ok <-isTrue c env (eval c env);pure (ForInStep.yield ok) else pure (ForInStep.yield r)) (fun ok s₃=>
      if ok=true then wpAny (model prog w) A (eval elt env) (fun x s₄=>
       wpAny (model prog w) A (call (.builtin "list.append") [acc,x]) (fun _ s₅=>∃m,m<n/\I m s₅) (notedBy (model prog w) A env fun e s'=>R (.error e) s') s₄) (notedBy (model prog w) A env fun e s'=>R (.error e) s') s₃
      else ∃m,m<n/\I m s₃) (notedBy (model prog w) A env fun e s'=>R (.error e) s') s₂) (notedBy (model prog w) A env fun e s'=>R (.error e) s') s₁') (notedBy (model prog w) A env fun e s'=>R (.error e) s') s₁) (notedBy (model prog w) A env fun e s'=>R (.error e) s') s)
  (n:Nat) (h:I n s):
  codeAny (model prog w) A (.compLoop (.ListComp elt [⟨target,iter,ifs,0⟩] scope pos) 0 it acc env) R s:=by
 refine codeAny_loop rfl I (fun n s hI=>?_) n h
 show wpAny _ A ((compTurn (.ListComp elt [⟨target,iter,ifs,0⟩] scope pos) 0 it acc env).onRaise (fun x=>do noteFrame x env;theTreesLotGoes x)) _ _ s
 refine wpAny_noted ?_
 rw[compTurn_list]
 refine wpAny_bind (wpAny_standAt (wpAny_bind (wpAny_mono (turn n s hI) (fun r s₁ h₁=>?_) fun _ _ h'=>h')))
 cases r with
 |none=>exact wpAny_pure h₁
 |some v=>
  refine wpAny_bind (wpAny_mono h₁ (fun _ s₁' h₁'=>?_) fun _ _ h'=>h')
  refine wpAny_bind (wpAny_mono h₁' (fun _ s₂ h₂=>wpAny_bind (wpAny_mono h₂ (fun ok s₃ h₃=>?_) fun _ _ h'=>h')) fun _ _ h'=>h')
  cases ok with
  |false=>exact wpAny_pure ⟨rfl,h₃⟩
  |true=>
   exact wpAny_bind (wpAny_bind (wpAny_mono h₃ (fun x s₄ h₄=>wpAny_bind (wpAny_mono h₄ (fun _ s₅ h₅=>wpAny_pure (wpAny_pure ⟨rfl,h₅⟩)) fun _ _ h'=>h')) fun _ _ h'=>h'))
section
variable {X:Cx}
def tLc (wi:TI) (g:TG) (tt:TT) (te:TE) (vs:List Nat):TE:=fun σ H Q=>wi σ H fun J H1=>∀D,H1 D=none->∃W:Nat->Nat->Hp->Prop,(∃m,W 0 m (upd H1 D (.lst [])))/\∀i m H,W i m H->
 (J.stop i H/\Q (.ref D) H)\/(J.go i H/\∃Nx:Hp->Prop,(∀H',Nx H'->∃m',m'<m/\W (i+1) m' H')/\∀x H',J.yld i H x H'->g x (BQ σ vs) H' fun σ2 H2=>BQ σ2 vs=BQ σ vs/\tt σ2 H2 fun b H3=>
  if b=true then te σ2 H3 fun y H4=>∃acc,H4 D=some (.lst acc)/\acc.length<sizeLine/\Nx (upd H4 D (.lst (acc++[y]))) else Nx H3)
theorem T8 {pins:List (Addr×Obj)} {s:Shared} {σ:St} {H:Hp} {Q:VK} {elt tg iter:Expr} {ifs:List Expr} {scope:Scope} {own:List (Str×Nat)} {pos pos':Pos} {wi:TI} {g:TG} {tt:TT} {te:TE} {use:Option (Value->Sem Unit)} {Qf:Value->Shared->Prop}
  (hc:X.calm=true) (hN:X.N.Nodup) (I:Inv X pins σ H s) (hi:PI X tg iter wi) (ok:OM X.N X.env.scope scope own)
  (hg:∀(s:Shared) (H:Hp) (C:Addr) (cl:List (Str×Addr)) (fp:List Addr),PG (X.blk s H scope (compEnvC scope cl C X.env) fp) tg g) (ht:∀(s:Shared) (H:Hp) (C:Addr) (cl:List (Str×Addr)) (fp:List Addr),PTs (X.blk s H scope (compEnvC scope cl C X.env) fp) ifs tt)
  (he:∀(s:Shared) (H:Hp) (C:Addr) (cl:List (Str×Addr)) (fp:List Addr),PE (X.blk s H scope (compEnvC scope cl C X.env) fp) elt te) (hs:∀x,foldedSetIterable iter X.env x=pure x)
  (h:tLc wi g tt te (own.map (·.2)) σ H Q)
  (hRR:∀D C s' m H',Inv X pins σ H' s'->Q (.ref D) H'->s'.heap.Ns C m->Ib X pins H' C->compPost (model X.prog X.w) X.A X.xe use Qf (.ref D) C (.ok .next) s'):
  wpAny (model X.prog X.w) X.A (comprehension (.ListComp elt [⟨tg,iter,ifs,0⟩] scope pos) scope X.env pos' (newList []) false (eval iter X.env) use) Qf X.xe s:=by
 have hfree:∀y∈scope.names,y.2=.free->∃c,X.env.cells.lookup y.1=some c:=fun y hy e=>by
  rcases ok.free y hy e with k|k
  ·exact I.ok.has _ (.inl k)
  ·exact I.ok.has _ (.inr k)
 refine wpAny_comprehension_free (use:=use) rfl hs (Ug hfree) ok.kind (fun y hy e=>by rw[ok.uniq y hy,e])
  (thn (hi pins s σ H _ I h) fun xv s1 hx=>thn hx fun itv s2 h2=>?_)
 obtain ⟨it,fp,tn,J,H2,e,I2,T,st2,f2,q⟩:=h2
 subst e
 refine wpAny_newObj_type (Sw ?_) (by show 0<=sizeLine;decide)
 generalize hD:s2.heap.objs.size=D
 have hDn:H2 D=none:=I2.hok.fresh (Nat.le_of_eq hD)
 obtain ⟨W,⟨m0,w0⟩,turn⟩:=q D hDn
 generalize hs3:({s2 with heap:=s2.heap.push {cls:=.type "list",data:=.seq ([]:List Value).toArray}}:Shared)=s3
 have I3:Inv X pins σ (upd H2 D (.lst [])) s3:=by
  rw[<-hs3]
  refine I2.laid (t':=s2.toks) (fun b o e=>Heap.get?_push_of_some _ e) (Nat.le_of_eq hD) ⟨Nat.zero_le _,[],0,.nil,?_⟩
  rw[<-hD]
  exact Heap.get?_push_size _ rfl
 have h3:s3.heap=s2.heap.push {cls:=.type "list",data:=.seq ([]:List Value).toArray}:=by rw[<-hs3]
 have sz:∀b∈fp,b<s2.heap.objs.size:=fun b hb=>by
  obtain ⟨o,e,_⟩:=T.obj _ _ st2 b hb
  exact Heap.lt_size e
 have f3:∀b∈fp,Ib X pins (upd H2 D (.lst [])) b/\b<s3.heap.objs.size:=fun b hb=>by
  have hlt:=sz b hb
  refine ⟨⟨?_,(f2 b hb).2⟩,by rw[h3,Heap.size_push];exact Nat.lt_succ_of_lt hlt⟩
  rw[A8 (by rw[<-hD];exact Nat.ne_of_lt hlt)]
  exact (f2 b hb).1
 have st3:tn 0 s3.heap:=T.keep _ _ _ st2 fun b _ o e=>by rw[h3];exact Heap.get?_push_of_some _ e
 have I4:=So I3 ok hN f3
 have pg:=hg s3 (upd H2 D (.lst [])) s3.heap.objs.size (cellsFrom (s3.heap.objs.size+1) scope.names (B9 X.env.cells scope.names [])) fp
 have pt:=ht s3 (upd H2 D (.lst [])) s3.heap.objs.size (cellsFrom (s3.heap.objs.size+1) scope.names (B9 X.env.cells scope.names [])) fp
 have pe:=he s3 (upd H2 D (.lst [])) s3.heap.objs.size (cellsFrom (s3.heap.objs.size+1) scope.names (B9 X.env.cells scope.names [])) fp
 show codeAny _ _ (.compStart (.ListComp elt [⟨tg,iter,ifs,0⟩] scope pos) 0 (.ref it) (.ref D) (compEnvC scope (cellsFrom (s3.heap.objs.size+1) scope.names (B9 X.env.cells scope.names [])) s3.heap.objs.size X.env)) (compPost (model X.prog X.w) X.A X.xe use Qf (.ref D) s3.heap.objs.size) {s3 with heap:=pushCells (s3.heap.push {cls:=.type "dict",data:=.dict #[]}) scope.names}
 have nfp:∀b∈fp,(upd H2 D (.lst [])) b=none:=fun b hb=>(f3 b hb).1.1
 generalize hce:compEnvC scope (cellsFrom (s3.heap.objs.size+1) scope.names (B9 X.env.cells scope.names [])) s3.heap.objs.size X.env=ce at I4 pg pt pe ⊢
 have cL:ce.locals=s3.heap.objs.size:=by subst hce;rfl
 generalize hH3:upd H2 D (.lst [])=H3 at I3 I4 pg pt pe w0 nfp f3
 generalize hs4:({s3 with heap:=pushCells (s3.heap.push {cls:=.type "dict",data:=.dict #[]}) scope.names}:Shared)=s4 at I4 ⊢
 have st4:tn 0 s4.heap:=T.keep _ _ _ st3 fun b _ o e=>by rw[<-hs4];exact pushCells_keeps _ _ _ _ (Heap.get?_push_of_some _ e)
 have stat:∀{σ':St} {H':Hp} {s':Shared},Inv (X.blk s3 H3 scope ce fp) [] σ' H' s'->(∀b∈fp,H' b=none)->∀b∈fp,Ib (X.blk s3 H3 scope ce fp) [] H' b:=fun {σ' H' s'} I' hn b hb=>
  ⟨hn b hb,(I'.ok.exf b hb).1,I'.ok.exfs b hb,.inl hb,fun x c e=>(I'.ok.exf b hb).2 x c e,fun p hp=>absurd (show p∈([]:List (Addr×Obj))++[] from hp) (by simp)⟩
 have loop:codeAny (model X.prog X.w) X.A (.compLoop (.ListComp elt [⟨tg,iter,ifs,0⟩] scope pos) 0 (.ref it) (.ref D) ce) (compPost (model X.prog X.w) X.A X.xe use Qf (.ref D) s3.heap.objs.size) s4:=by
  refine SE (fun n s'=>∃i H',Inv (X.blk s3 H3 scope ce fp) [] (BQ σ (own.map (·.2))) H' s'/\tn i s'.heap/\(∀b∈fp,H' b=none)/\W i n H') ?_ m0 ⟨0,H3,I4,st4,nfp,w0⟩
  rintro n s5 ⟨i,H5,I5,st5,n5,w5⟩
  rcases turn i n H5 w5 with ⟨stop,qq⟩|⟨go,Nx,hNx,step⟩
  ·have td:=T.done (X.blk s3 H3 scope ce fp) rfl rfl rfl hc i [] s5 _ H5 (fun _ _=>False) I5 (stat I5 n5) st5 stop
   refine PR td fun r s6 ⟨hr,I6⟩=>?_
   subst hr
   have I7:Inv X pins σ H5 s6:=I3.call' (ch:=fp) I6.os I6.base I6.hok I6.bare fun b hb=>⟨(f3 b hb).1.2.2.2.1,(f3 b hb).1.2.1,(f3 b hb).1.2.2.2.2.1,(f3 b hb).1.2.2.2.2.2⟩
   have nC:H5 s3.heap.objs.size=none:=by
    have z:H5 ce.locals=none:=I6.free
    rw[cL]at z
    exact z
   obtain ⟨m,hn,_⟩:=I6.loc
   have hn:s6.heap.Ns ce.locals m:=hn
   rw[cL]at hn
   exact hRR D s3.heap.objs.size s6 m H5 I7 qq hn (I3.fpOk (Nat.le_refl _) nC)
  ·have ti:=T.item (X.blk s3 H3 scope ce fp) rfl rfl rfl hc i [] s5 _ H5 (fun _ _=>False) I5 (stat I5 n5) st5 go
   refine PR ti fun r s6 ⟨u,hr,h6⟩=>?_
   subst hr
   refine PR h6 fun _ s7 ⟨x,H7,I7,r7,y7,st7,n7⟩=>?_
   have I7':=I7.pinned (stat I7 n7) (T.obj _ _ st7)
   refine PR (pg _ s7 _ H7 x u _ I7' r7 (step x H7 y7)) fun _ s8 ⟨σ8,H8,I8,hw8,q8⟩=>?_
   refine PR (pt _ s8 σ8 H8 _ I8 q8) fun b s9 ⟨H9,I9,q9⟩=>?_
   have fin:∀{s':Shared} {H':Hp},Inv (X.blk s3 H3 scope ce fp) ([]++Ll fp s7.heap) σ8 H' s'->Nx H'->∃m,m<n/\∃i H',Inv (X.blk s3 H3 scope ce fp) [] (BQ σ (own.map (·.2))) H' s'/\tn i s'.heap/\(∀b∈fp,H' b=none)/\W i m H':=fun {s' H'} I' nx=>by
    obtain ⟨m',hm,w'⟩:=hNx H' nx
    have pin':∀b∈fp,∀o,s7.heap.get? b=some o->s'.heap.get? b=some o/\H' b=none:=fun b hb o e=>
     let z:=I'.pin (b,o) (List.mem_append_right _ (List.mem_append_right _ (Ka hb e)))
     ⟨z.1,z.2.1⟩
    have hl:(BQ σ (own.map (·.2))).length=σ8.length:=by rw[<-hw8,Je]
    refine ⟨m',hm,i+1,H',(I'.unpinned (pins:=[])).weak hl (fun j v e=>?_),T.keep _ _ _ st7 fun b hb o e=>(pin' b hb o e).1,fun b hb=>?_,w'⟩
    ·rw[<-hw8]at e
     exact (Lh e).1
    ·obtain ⟨o,e,_⟩:=T.obj _ _ st7 b hb
     exact (pin' b hb o e).2
   cases b with
   |false=>
    simp only[Bool.false_eq_true,if_false]at q9 ⊢
    exact fin I9 q9
   |true=>
    simp only[if_true]at q9 ⊢
    refine PR (pe _ s9 σ8 H9 _ I9 q9) fun z s10 ⟨yv,H10,I10,r10,acc,hD10,hz10,nx⟩=>?_
    exact YD (X:=X.blk s3 H3 scope ce fp) I10 hD10 hz10 r10 fun s11 I11=>fin I11 nx
 exact codeAny_compStart_list loop (T.self X.A 0 _ _ _ st4 loop)
theorem Gn {elt tg iter:Expr} {ifs:List Expr} {scope:Scope} {own:List (Str×Nat)} {pos:Pos} {wi:TI} {g:TG} {tt:TT} {te:TE} (hc:X.calm=true) (hN:X.N.Nodup) (hi:PI X tg iter wi) (ok:OM X.N X.env.scope scope own)
  (hg:∀(s:Shared) (H:Hp) (C:Addr) (cl:List (Str×Addr)) (fp:List Addr),PG (X.blk s H scope (compEnvC scope cl C X.env) fp) tg g) (ht:∀(s:Shared) (H:Hp) (C:Addr) (cl:List (Str×Addr)) (fp:List Addr),PTs (X.blk s H scope (compEnvC scope cl C X.env) fp) ifs tt)
  (he:∀(s:Shared) (H:Hp) (C:Addr) (cl:List (Str×Addr)) (fp:List Addr),PE (X.blk s H scope (compEnvC scope cl C X.env) fp) elt te) (hs:∀x,foldedSetIterable iter X.env x=pure x:=by intro _;rfl):
  PE X (.ListComp elt [⟨tg,iter,ifs,0⟩] scope pos) (tLc wi g tt te (own.map (·.2))):=by
 intro pins s σ H Q I h
 rw[eval_ListComp]
 refine T8 hc hN I hi ok hg ht he hs h fun D C s' m H' I' q hn f=>⟨m,hn,fun h'' sb=>?_⟩
 obtain ⟨f0,f1,f2,f3,f4,f5⟩:=f
 exact ⟨.ref D,H',I'.turned (t':=s'.toks) (fun b o hb e=>(sb.2 b hb).trans e) f0 f1 f3 f4 f5,rfl,q⟩
theorem S2 {i:Nat} {y:Str} {py:Pos} {elt tg iter:Expr} {ifs:List Expr} {scope:Scope} {own:List (Str×Nat)} {pos spos:Pos} {wi:TI} {g:TG} {tt:TT} {te:TE} (hc:X.calm=true) (hN:X.N.Nodup) (hy:X.N[i]?=some y) (hyl:X.env.scope.names.lookup y=some .local)
  (hsw:swapsWith (.ListComp elt [⟨tg,iter,ifs,0⟩] scope pos) (some (.Name y py)) spos.line X.env=pure true) (hi:PI X tg iter wi) (ok:OM X.N X.env.scope scope own)
  (hg:∀(s:Shared) (H:Hp) (C:Addr) (cl:List (Str×Addr)) (fp:List Addr),PG (X.blk s H scope (compEnvC scope cl C X.env) fp) tg g) (ht:∀(s:Shared) (H:Hp) (C:Addr) (cl:List (Str×Addr)) (fp:List Addr),PTs (X.blk s H scope (compEnvC scope cl C X.env) fp) ifs tt)
  (he:∀(s:Shared) (H:Hp) (C:Addr) (cl:List (Str×Addr)) (fp:List Addr),PE (X.blk s H scope (compEnvC scope cl C X.env) fp) elt te) (hs:∀x,foldedSetIterable iter X.env x=pure x:=by intro _;rfl):
  PS X (.Assign [.Name y py] (.ListComp elt [⟨tg,iter,ifs,0⟩] scope pos) spos) (PY (tLc wi g tt te (own.map (·.2))) (KG i)):=by
 intro pins s σ H D I h
 rw[exec_Assign_Name_used _ _ _ _ hsw]
 refine wpAny_bind (wpAny_standAt (wpAny_bind ?_))
 show wpAny _ X.A (do let _ <-comprehension (.ListComp elt [⟨tg,iter,ifs,0⟩] scope pos) scope X.env (firstIterPos [⟨tg,iter,ifs,0⟩] pos) (newList []) false (eval iter X.env) (some (assign (.Name y py) X.env))) _ _ s
 have h:tLc wi g tt te (own.map (·.2)) σ H (fun x H1=>KG i x σ H1 D.nx):=h
 refine wpAny_bind (thn (T8 (Qf:=fun _ s'=>SP X pins D .next s') hc hN I hi ok hg ht he hs h fun L C s' m H' I' q hn f=>?_) fun _ s' hq=>wpAny_pure (wpAny_pure hq))
 show wpAny _ _ (assign (.Name y py) X.env (.ref L)) _ _ _
 refine wpAny_assign_Name (QB (v:=V.ref L) I' hN hy (.inl hyl) rfl (fun s2 I2 ⟨a,sb,ha⟩=>?_) (.inr hyl))
 obtain ⟨f0,f1,f2,f3,f4,f5⟩:=f
 have haC:C≠a:=by
  rcases ha with z|z
  ·rw[z];exact f1
  ·exact fun e=>f4 y a z e.symm
 refine ⟨m,hn.sameBut sb haC,fun h3 sb3=>?_⟩
 exact ⟨_,H',I2.turned (t':=s2.toks) (fun b o hb e=>(sb3.2 b hb).trans e) f0 f1 f3 f4 f5,q⟩
theorem TK {elt:Expr} {gs:List Comprehension} {scope:Scope} {pos py:Pos} {y:Str} {l:Nat} {env:Env} (hk:env.scope.kind=.function) (hy:env.scope.names.lookup y=some .local) (hl:(py.line==pos.line)=true)
  (ha:(scope.names.any fun (n,k)=>n==y&&(k==.local||k==.cell))=false):swapsWith (.ListComp elt gs scope pos) (some (.Name y py)) l env=pure true:=by
 have ky:env.kindOf y=some .local:=hy
 have hb:env.blockKind=.function:=by unfold Env.blockKind;rw[hk];rfl
 unfold swapsWith
 simp only[hb,ky,ha,Expr.pos,hl]
 rfl
end
def Y4 (N:List Str) (sc scope:Scope) (own:List (Str×Nat)):Bool:=
 (match scope.kind with|.function=>true|_=>false)&&(scope.names.all fun y=>decide (scope.names.lookup y.1=some y.2))&&(own.all fun p=>decide (N[p.2]?=some p.1))&&
  (scope.names.all fun y=>match y.2 with
   |.free=>(match sc.names.lookup y.1 with|some .cell=>true|some .free=>true|_=>false)
   |.local=>decide (y.1∈own.map (·.1))||decide (y.1∉N)
   |.cell=>decide (y.1∈own.map (·.1))||decide (y.1∉N)
   |_=>true)
theorem Ca {N:List Str} {sc scope:Scope} {own:List (Str×Nat)} (h:Y4 N sc scope own=true):OM N sc scope own:=by
 unfold Y4 at h
 simp only[Bool.and_eq_true,List.all_eq_true,decide_eq_true_eq]at h
 obtain ⟨⟨⟨h1,h2⟩,h3⟩,h4⟩:=h
 refine ⟨?_,h2,h3,fun y hy e=>?_,fun y hy e=>?_⟩
 ·split at h1
  ·assumption
  ·cases h1
 ·have q:=h4 y hy
  simp only[e]at q
  split at q<;>first|exact .inl (by assumption)|exact .inr (by assumption)|cases q
 ·have q:=h4 y hy
  rcases e with e|e<;>(simp only[e,Bool.or_eq_true,decide_eq_true_eq]at q;exact q)
end L2
namespace L2
open PySem PySem.Spec PyProof.Rows
section
variable {κ:Type} [DecidableEq κ]
def Ae (kvs:List (κ×V)) (k:κ):Option V:=(kvs.find? fun kv=>decide (kv.1=k)).map (·.2)
def BB (kvs:List (κ×V)) (k:κ) (v:V):List (κ×V):=
 if (kvs.any fun kv=>decide (kv.1=k))=true then kvs.map (fun kv=>if kv.1=k then (kv.1,v) else kv) else kvs++[(k,v)]
def C6 (kvs:List (κ×V)) (k:κ):List (κ×V):=kvs.filter fun kv=>decide (kv.1≠k)
theorem CJ {p:κ×V} {r:List (κ×V)} {k:κ} (e:p.1=k):Ae (p::r) k=some p.2:=by simp[Ae,List.find?_cons,e]
theorem C0 {p:κ×V} {r:List (κ×V)} {k:κ} (e:¬p.1=k):Ae (p::r) k=Ae r k:=by simp[Ae,List.find?_cons,e]
theorem Dt (k:κ):∀kvs:List (κ×V),(kvs.any fun kv=>decide (kv.1=k))=(Ae kvs k).isSome
 |[]=>rfl
 |p::r=>by
  rw[List.any_cons]
  by_cases e:p.1=k
  ·simp only[CJ e,decide_eq_true e,Bool.true_or,Option.isSome_some]
  ·rw[C0 e,decide_eq_false e,Bool.false_or];exact Dt k r
theorem RW (k j:κ) (y:V):∀kvs:List (κ×V),Ae (kvs.map fun kv=>if kv.1=k then (kv.1,y) else kv) j=(Ae kvs j).map fun x=>if j=k then y else x
 |[]=>rfl
 |p::r=>by
  have ih:=RW k j y r
  rw[List.map_cons]
  by_cases h:p.1=k
  ·rw[if_pos h]
   by_cases e:p.1=j
   ·rw[CJ (p:=(p.1,y)) e,CJ e,Option.map_some,if_pos (e.symm.trans h)]
   ·rw[C0 (p:=(p.1,y)) e,C0 e,ih]
  ·rw[if_neg h]
   by_cases e:p.1=j
   ·rw[CJ (p:=p) e,CJ e,Option.map_some,if_neg (fun z=>h (e.trans z))]
   ·rw[C0 (p:=p) e,C0 e,ih]
theorem Po (k j:κ) (y:V):∀kvs:List (κ×V),Ae kvs k=none->Ae (kvs++[(k,y)]) j=if j=k then some y else Ae kvs j
 |[],_=>by
  by_cases e:k=j
  ·rw[if_pos e.symm];exact CJ (p:=(k,y)) e
  ·rw[if_neg (fun z=>e z.symm)];exact C0 (p:=(k,y)) e
 |p::r,hn=>by
  rw[List.cons_append]
  have hk:¬p.1=k:=fun z=>by rw[CJ z]at hn;cases hn
  rw[C0 hk]at hn
  have ih:=Po k j y r hn
  by_cases e:p.1=j
  ·rw[CJ e,CJ e,if_neg (fun z=>hk (e.trans z))]
  ·rw[C0 e,C0 e,ih]
theorem FZ (kvs:List (κ×V)) (k j:κ) (y:V):Ae (BB kvs k y) j=if j=k then some y else Ae kvs j:=by
 unfold BB
 by_cases a:(kvs.any fun kv=>decide (kv.1=k))=true
 ·rw[if_pos a,RW]
  rw[Dt]at a
  by_cases e:j=k
  ·obtain ⟨x,hx⟩:=Option.isSome_iff_exists.mp a
   rw[if_pos e,e,hx,Option.map_some,if_pos rfl]
  ·rw[if_neg e]
   cases Ae kvs j with
   |none=>rfl
   |some x=>rw[Option.map_some,if_neg e]
 ·rw[if_neg a]
  refine Po k j y kvs ?_
  rw[Dt]at a
  cases q:Ae kvs k with
  |none=>rfl
  |some x=>rw[q]at a;exact (a rfl).elim
theorem Ja (kvs:List (κ×V)) (k:κ) (v:V):(BB kvs k v).length<=kvs.length+1:=by
 unfold BB
 split
 ·rw[List.length_map];omega
 ·rw[List.length_append,List.length_cons,List.length_nil];omega
theorem Wb {kvs:List (κ×V)} {k:κ} (v:V) (h:Ae kvs k=none):BB kvs k v=kvs++[(k,v)]:=by
 unfold BB
 rw[Dt,h]
 exact if_neg (by decide)
theorem Ds.isSome_eq {o:Option V} {u:Option Value} (r:Ds o u):o.isSome=u.isSome:=by
 cases o with
 |none=>cases u with
  |none=>rfl
  |some _=>exact (show False from r).elim
 |some _=>cases u with
  |none=>exact (show False from r).elim
  |some _=>rfl
theorem Ds.getD {o:Option V} {u:Option Value} {d:V} {d':Value} (r:Ds o u) (rd:RelV d d'):RelV (o.getD d) (u.getD d'):=by
 cases o with
 |none=>cases u with
  |none=>exact rd
  |some _=>exact (show False from r).elim
 |some _=>cases u with
  |none=>exact (show False from r).elim
  |some _=>exact r
theorem KV.val {kvs:List (κ×V)} {vs:List (κ×Value)} (r:KV kvs vs) (k:κ):Ds (Ae kvs k) (valueAt vs k):=by
 unfold KV at r
 induction r with
 |nil=>exact True.intro
 |@cons p q ps qs h t ih=>
  obtain ⟨h1,h2⟩:=h
  by_cases e:p.1=k
  ·have e':q.1=k:=h1.symm.trans e
   have b:valueAt (q::qs) k=some q.2:=by simp[valueAt,List.find?_cons,e']
   rw[CJ e,b];exact h2
  ·have e':¬q.1=k:=fun z=>e (h1.trans z)
   have b:valueAt (q::qs) k=valueAt qs k:=by simp[valueAt,List.find?_cons,e']
   rw[C0 e,b];exact ih
theorem KV.any {kvs:List (κ×V)} {vs:List (κ×Value)} (r:KV kvs vs) (k:κ):(kvs.any fun kv=>decide (kv.1=k))=vs.any fun kv=>decide (kv.1=k):=by
 unfold KV at r
 induction r with
 |nil=>rfl
 |cons h t ih=>rw[List.any_cons,List.any_cons,ih,h.1]
theorem KV.repl {kvs:List (κ×V)} {vs:List (κ×Value)} (r:KV kvs vs) (k:κ) {y:V} {u:Value} (ry:RelV y u):
  KV (kvs.map fun kv=>if kv.1=k then (kv.1,y) else kv) (vs.map fun kv=>if kv.1=k then (kv.1,u) else kv):=by
 unfold KV at r ⊢
 induction r with
 |nil=>exact .nil
 |@cons p q ps qs h t ih=>
  rw[List.map_cons,List.map_cons]
  refine .cons ?_ ih
  obtain ⟨h1,h2⟩:=h
  by_cases e:p.1=k
  ·rw[if_pos e,if_pos (h1.symm.trans e)];exact ⟨h1,ry⟩
  ·rw[if_neg e,if_neg (fun z=>e (h1.trans z))];exact ⟨h1,h2⟩
theorem KV.put {kvs:List (κ×V)} {vs:List (κ×Value)} (r:KV kvs vs) (k:κ) {y:V} {u:Value} (ry:RelV y u):KV (BB kvs k y) (stored vs k u):=by
 unfold BB stored
 rw[r.any k]
 by_cases e:(vs.any fun kv=>decide (kv.1=k))=true
 ·rw[if_pos e,if_pos e];exact r.repl k ry
 ·rw[if_neg e,if_neg e];exact Paired.snoc r ⟨rfl,ry⟩
theorem KV.drop {kvs:List (κ×V)} {vs:List (κ×Value)} (r:KV kvs vs) (k:κ):KV (C6 kvs k) (without vs k):=by
 unfold KV at r ⊢
 unfold C6 without
 induction r with
 |nil=>exact .nil
 |@cons p q ps qs h t ih=>
  obtain ⟨h1,h2⟩:=h
  rw[List.filter_cons,List.filter_cons]
  by_cases e:p.1=k
  ·have a:¬decide (p.1≠k)=true:=by simp[e]
   have b:¬decide (q.1≠k)=true:=by simp[h1.symm.trans e]
   rw[if_neg a,if_neg b];exact ih
  ·have e':¬q.1=k:=fun z=>e (h1.trans z)
   have a:decide (p.1≠k)=true:=by simp[e]
   have b:decide (q.1≠k)=true:=by simp[e']
   rw[if_pos a,if_pos b];exact .cons ⟨h1,h2⟩ ih
theorem KV.keys {kvs:List (κ×V)} {vs:List (κ×Value)} (r:KV kvs vs):kvs.map (·.1)=vs.map (·.1):=by
 unfold KV at r
 induction r with
 |nil=>rfl
 |cons h t ih=>rw[List.map_cons,List.map_cons,ih,h.1]
theorem KV.length {kvs:List (κ×V)} {vs:List (κ×Value)} (r:KV kvs vs):kvs.length=vs.length:=Paired.length r
theorem NP (kvs:List (κ×V)) (k:κ):(C6 kvs k).length<=kvs.length:=List.length_filter_le _ _
end
theorem Hr {P:Program} {w:World} {k:Key} {u:Value} (r:RelV (kV k) u):(B3 P w).is k u=true:=by
 cases k with
 |inl i=>obtain ⟨t,e⟩:=(show ∃t,u=Value.int i t from r);subst e;exact Sq P w i t
 |inr x=>obtain ⟨t,e⟩:=(show ∃t,u=Value.str x t from r);subst e;exact Sy P w x t
theorem Ph {P:Program} {w:World}:∀{ks:List Key} {us:List Value},AS (ks.map kV) us->ItemsAre (B3 P w) ks us
 |[],_,r=>by rw[List.map_nil]at r;cases r;exact .nil
 |k::ks,_,r=>by
  rw[List.map_cons]at r
  cases r with
  |cons h t=>exact .cons (Hr h) (Ph t)
abbrev KT (H:Hp):List (List Key×V)->List (List Key×Addr×Value)->Prop:=Paired fun p q=>p.1=q.1/\H q.2.1=some (.tup (p.1.map kV))/\RelV p.2 q.2.2
theorem KT.val {H:Hp} {kvs:List (List Key×V)} {xs:List (List Key×Addr×Value)} (r:KT H kvs xs) (k:List Key):Ds (Ae kvs k) ((atKey xs k).map (·.2)):=by
 induction r with
 |nil=>exact True.intro
 |@cons p q ps qs h t ih=>
  obtain ⟨h1,_,h2⟩:=h
  by_cases e:p.1=k
  ·have e':q.1=k:=h1.symm.trans e
   have b:atKey (q::qs) k=some q.2:=by simp[atKey,List.find?_cons,e']
   rw[CJ e,b];exact h2
  ·have e':¬q.1=k:=fun z=>e (h1.trans z)
   have b:atKey (q::qs) k=atKey qs k:=by simp[atKey,List.find?_cons,e']
   rw[C0 e,b];exact ih
theorem KT.repl {H:Hp} {kvs:List (List Key×V)} {xs:List (List Key×Addr×Value)} (r:KT H kvs xs) (k:List Key) {y:V} {u:Value} (ry:RelV y u):
  KT H (kvs.map fun kv=>if kv.1=k then (kv.1,y) else kv) (xs.map (putAt k u)):=by
 induction r with
 |nil=>exact .nil
 |@cons p q ps qs h t ih=>
  rw[List.map_cons,List.map_cons]
  refine .cons ?_ ih
  obtain ⟨h1,h2,h3⟩:=h
  unfold putAt
  by_cases e:p.1=k
  ·rw[if_pos e,if_pos (h1.symm.trans e)];exact ⟨h1,h2,ry⟩
  ·rw[if_neg e,if_neg (fun z=>e (h1.trans z))];exact ⟨h1,h2,h3⟩
theorem KT.put {H:Hp} {kvs:List (List Key×V)} {xs:List (List Key×Addr×Value)} (r:KT H kvs xs) (k:List Key) {b:Addr} {y:V} {u:Value} (hb:H b=some (.tup (k.map kV))) (ry:RelV y u):
  KT H (BB kvs k y) (storedH xs k b u):=by
 have e:(kvs.any fun kv=>decide (kv.1=k))=(atKey xs k).isSome:=by
  rw[Dt,(r.val k).isSome_eq,Option.isSome_map]
 unfold BB storedH
 rw[e]
 by_cases q:(atKey xs k).isSome=true
 ·rw[if_pos q,if_pos q];exact r.repl k ry
 ·rw[if_neg q,if_neg q];exact Paired.snoc r ⟨rfl,hb,ry⟩
theorem KT.keeps {H H':Hp} {kvs:List (List Key×V)} {xs:List (List Key×Addr×Value)} (r:KT H kvs xs) (ht:∀b ys,H b=some (.tup ys)->H' b=some (.tup ys)):KT H' kvs xs:=
 Paired.mapP r fun _ _ z=>⟨z.1,ht _ _ z.2.1,z.2.2⟩
section
variable {P:Program} {w:World} {H:Hp} {h:Heap} {a:Addr}
theorem Wm {u:HO} (ok:HOk P w H h) (e:Rd H a u):BV P w H h a u:=e.ok ok
theorem Hq {kvs:List (Key×V)} (ok:HOk P w H h) (e:Rd H a (.dK kvs)):kvs.length<=sizeLine/\(a==sysModules)=false/\∃vs,KV kvs vs/\h.DictOf (B3 P w) a vs:=
 show BV P w H h a (.dK kvs) from Wm ok e
theorem OG {kvs:List (Key×V)} (ok:HOk P w H h) (e:H a=some (.dK kvs)):kvs.length<=sizeLine/\(a==sysModules)=false/\∃vs,KV kvs vs/\h.DictOf (B3 P w) a vs:=Hq ok (.inl e)
theorem Ju {ks:List Key} (ok:HOk P w H h) (e:H a=some (.tup (ks.map kV))):(tupleKind (B3 P w)).is h ks a:=by
 obtain ⟨_,its,r,o,h1,h2,n,h3⟩:=(show BV P w H h a (.tup (ks.map kV)) from ok a _ e)
 exact ⟨o,its.toArray,n,h1,h2,h3,by simpa using Ph r⟩
theorem KW {kvs:List (List Key×V)} (ok:HOk P w H h) (e:Rd H a (.dT kvs)):kvs.length<=sizeLine/\(a==sysModules)=false/\
  ∃xs,KT H kvs xs/\h.DictOfH (tupleKind (B3 P w)) a xs:=by
 obtain ⟨z,y,xs,r,o,es,ep,h1,h2,h3,h4,h5⟩:=(show BV P w H h a (.dT kvs) from Wm ok e)
 refine ⟨z,y,xs,r,o,es,ep,h1,h2,h3,h4,fun x hx=>?_,h5⟩
 have all:∀{l:List (List Key×V)} {m:List (List Key×Addr×Value)},KT H l m->∀x∈m,(tupleKind (B3 P w)).is h x.1 x.2.1:=by
  intro l m q
  induction q with
  |nil=>intro x hx;exact nomatch hx
  |@cons p q ps qs hq t ih=>
   intro x hx
   rcases List.mem_cons.mp hx with e|hx
   ·subst e
    exact Ju ok (by rw[<-hq.1];exact hq.2.1)
   ·exact ih x hx
 exact all r x hx
theorem YX {kvs:List (List Key×V)} (ok:HOk P w H h) (e:H a=some (.dT kvs)):kvs.length<=sizeLine/\(a==sysModules)=false/\
  ∃xs,KT H kvs xs/\h.DictOfH (tupleKind (B3 P w)) a xs:=KW ok (.inl e)
end
def B0 (H:Hp) (a:Addr) (y:V) (r:Option V):Prop:=
 (∃kvs k,Rd H a (.dK kvs)/\y=kV k/\r=Ae kvs k)\/∃kvs k b,Rd H a (.dT kvs)/\y=.ref b/\H b=some (.tup (k.map kV))/\r=Ae kvs k
def FW (H:Hp) (a:Addr) (y v:V) (H':Hp):Prop:=
 (∃kvs k,H a=some (.dK kvs)/\y=kV k/\kvs.length<sizeLine/\H'=upd H a (.dK (BB kvs k v)))\/
 ∃kvs k b,H a=some (.dT kvs)/\y=.ref b/\H b=some (.tup (k.map kV))/\kvs.length<sizeLine/\H'=upd H a (.dT (BB kvs k v))
theorem B0.k {H:Hp} {a:Addr} {kvs:List (Key×V)} {k:Key} (e:H a=some (.dK kvs)):B0 H a (kV k) (Ae kvs k):=.inl ⟨kvs,k,.inl e,rfl,rfl⟩
theorem FW.k {H:Hp} {a:Addr} {kvs:List (Key×V)} {k:Key} {v:V} (e:H a=some (.dK kvs)) (hl:kvs.length<sizeLine):FW H a (kV k) v (upd H a (.dK (BB kvs k v))):=.inl ⟨kvs,k,e,rfl,hl,rfl⟩
section
variable {X:Cx} {pins:List (Addr×Obj)} {σ:St} {H:Hp} {s:Shared} {a:Addr} {y v:V} {u r:Value} {o:Option V} {A:Around} {E:Value->Shared->Prop}
theorem Inv.big (I:Inv X pins σ H s):sysModules<s.heap.objs.size:=by
 have h:mainGlobals<s.heap.objs.size:=(I.mod.glob.keeps I.bk).lt
 exact Nat.lt_trans (by decide) h
theorem Uv {Q:Value->Shared->Prop} (hu:A.units+1<cLine) (I:Inv X pins σ H s) (g:B0 H a y (some v)) (ry:RelV y u) (h:∀w' s',Inv X pins σ H s'->RelV v w'->Q w' s'):
  wpAny (model X.prog X.w) A (getItem (.ref a) u) Q E s:=by
 rcases g with ⟨kvs,k,e,ey,l⟩|⟨kvs,k,b,e,ey,eb,l⟩
 ·subst ey
  obtain ⟨z,hd,vs,rel,dd⟩:=Hq I.hok e
  obtain ⟨w',hw,rw'⟩:=Ds.some_of (v:=v) (o:=valueAt vs k) (by rw[l];exact rel.val k)
  exact wpAny_getItem_of (Hr ry) dd.mapOf hw (h w' _ (I.tok _) rw')
 ·subst ey
  cases (show u=Value.ref b from ry)
  obtain ⟨z,hd,xs,rel,dd⟩:=KW I.hok e
  obtain ⟨w',hw,rw'⟩:=Ds.some_of (v:=v) (o:=(atKey xs k).map (·.2)) (by rw[l];exact rel.val k)
  obtain ⟨p,hp,hp2⟩:=Option.map_eq_some_iff.mp hw
  refine wpAny_getItem_heap (tupleKind_room_in1 hu) (Ju I.hok eb) dd hp ?_
  rw[hp2]
  exact h w' _ (I.tok _) rw'
theorem Yk {Q:Value->Shared->Prop} (hu:A.units+1<cLine) (I:Inv X pins σ H s) (g:B0 H a y o) (ry:RelV y u) (h:∀s',Inv X pins σ H s'->Q (.bool o.isSome) s'):
  wpAny (model X.prog X.w) A (compareOp .In u (.ref a)) Q E s:=by
 rcases g with ⟨kvs,k,e,ey,l⟩|⟨kvs,k,b,e,ey,eb,l⟩
 ·subst ey
  obtain ⟨z,hd,vs,rel,dd⟩:=Hq I.hok e
  refine wpAny_in_of (Hr ry) hd dd.mapOf ?_
  rw[<-(rel.val k).isSome_eq,<-l]
  exact h _ (I.tok _)
 ·subst ey
  cases (show u=Value.ref b from ry)
  obtain ⟨z,hd,xs,rel,dd⟩:=KW I.hok e
  refine wpAny_in_heap (tupleKind_room_in1 hu) (Ju I.hok eb) hd dd ?_
  have q:=(rel.val k).isSome_eq
  rw[Option.isSome_map]at q
  rw[<-q,<-l]
  exact h _ (I.tok _)
theorem Wp {Q:Value->Shared->Prop} (hu:A.units+1<cLine) (I:Inv X pins σ H s) (g:B0 H a y o) (ry:RelV y u) (h:∀s',Inv X pins σ H s'->Q (.bool (!o.isSome)) s'):
  wpAny (model X.prog X.w) A (compareOp .NotIn u (.ref a)) Q E s:=by
 rcases g with ⟨kvs,k,e,ey,l⟩|⟨kvs,k,b,e,ey,eb,l⟩
 ·subst ey
  obtain ⟨z,hd,vs,rel,dd⟩:=Hq I.hok e
  refine wpAny_notIn_of (Hr ry) hd dd.mapOf ?_
  rw[<-(rel.val k).isSome_eq,<-l]
  exact h _ (I.tok _)
 ·subst ey
  cases (show u=Value.ref b from ry)
  obtain ⟨z,hd,xs,rel,dd⟩:=KW I.hok e
  refine wpAny_notIn_heap (tupleKind_room_in1 hu) (Ju I.hok eb) hd dd ?_
  have q:=(rel.val k).isSome_eq
  rw[Option.isSome_map]at q
  rw[<-q,<-l]
  exact h _ (I.tok _)
theorem Jg {h':Heap} {t':Nat} {ob:HO} (I:Inv X pins σ H s) (mu:Mut (H a)) (hs:Heap.SameBut a s.heap h') (he:∃q,h'.get? a=some q) (new:BV X.prog X.w (upd H a ob) h' a ob):
  Inv X pins σ (upd H a ob) {s with heap:=h',toks:=t'}:=
 I.write (x:=a) (e:=a) mu (.inl rfl) (fun b q hb z=>(hs.2 b hb).trans z) he new
theorem Le {P:Program} {w:World} {H':Hp} {h':Heap} {kvs:List (Key×V)} {vs:List (Key×Value)} (z:kvs.length<=sizeLine) (hd:(a==sysModules)=false) (rel:KV kvs vs) (dd:h'.DictOf (B3 P w) a vs):
  BV P w H' h' a (.dK kvs):=⟨z,hd,vs,rel,dd⟩
theorem Uw {H':Hp} {Q:Unit->Shared->Prop} (hu:A.units+1<cLine) (I:Inv X pins σ H s) (g:FW H a y v H') (ry:RelV y u) (rv:RelV v r) (h:∀s',Inv X pins σ H' s'->Q () s'):
  wpAny (model X.prog X.w) A (setItem (.ref a) u r) Q E s:=by
 rcases g with ⟨kvs,k,e,ey,l,eH⟩|⟨kvs,k,b,e,ey,eb,l,eH⟩
 ·subst ey eH
  obtain ⟨z,hd,vs,rel,dd⟩:=OG I.hok e
  have hz:vs.length<=sizeLine:=by rw[<-rel.length];exact z
  have hl:(BB kvs k v).length<=sizeLine:=by have:=Ja kvs k v;omega
  refine wpAny_setItem_pairs (hsz:=hz) (Hr ry) dd fun h' dd' hs=>h _ ?_
  have he:∃q,h'.get? a=some q:=let ⟨q,_,_,hq,_⟩:=dd';⟨q,hq⟩
  exact Jg I (by rw[e];exact True.intro) hs he (Le hl hd (rel.put k rv) dd')
 ·subst ey eH
  cases (show u=Value.ref b from ry)
  obtain ⟨z,hd,xs,rel,dd⟩:=YX I.hok e
  have hz:xs.length<=sizeLine:=by rw[<-Paired.length rel];exact z
  have hl:(BB kvs k v).length<=sizeLine:=by have:=Ja kvs k v;omega
  refine wpAny_setItem_heap (hsz:=hz) (tupleKind_room_in1 hu) (Ju I.hok eb) dd fun h' dd' hs=>h _ ?_
  obtain ⟨q,es,ep,hq,h2,h3,h4,_,h5⟩:=dd'
  refine Jg I (by rw[e];exact True.intro) hs ⟨q,hq⟩ ⟨hl,hd,_,(rel.put k eb rv).keeps fun c ys ec=>?_,q,es,ep,hq,h2,h3,h4,h5⟩
  rw[A8 (Dv ec e (fun z=>nomatch z))]
  exact ec
end
section
variable {X:Cx} {pins:List (Addr×Obj)} {σ:St} {H:Hp} {s:Shared} {a:Addr} {kvs:List (Key×V)} {k:Key} {u:Value} {A:Around} {E:Value->Shared->Prop}
theorem Yd {Q:Unit->Shared->Prop} (I:Inv X pins σ H s) (e:H a=some (.dK kvs)) (ry:RelV (kV k) u) (l:(Ae kvs k).isSome=true) (h:∀s',Inv X pins σ (upd H a (.dK (C6 kvs k))) s'->Q () s'):
  wpAny (model X.prog X.w) A (delItem (.ref a) u) Q E s:=by
 obtain ⟨z,hd,vs,rel,dd⟩:=OG I.hok e
 refine wpAny_delItem_slot dd.typeIs (by decide) PySem.F.slot_dict_delitem
  (call_meetsIn PySem.F.slot_dict_delitem dd.typeIs PySem.F.entry_dict_delitem (PySem.F.args_dict_delitem_2 _ _) (meets_dict_delitem_pairs (B3 X.prog X.w) a (Hr ry)) ⟨vs,dd,by rw[<-rel.length];exact z,by rw[<-(rel.val k).isSome_eq];exact l,fun h' dd' hs=>h _ ?_⟩)
 have he:∃q,h'.get? a=some q:=let ⟨q,_,_,hq,_⟩:=dd';⟨q,hq⟩
 exact Jg I (by rw[e];exact True.intro) hs he (Le (Nat.le_trans (NP kvs k) z) hd (rel.drop k) dd')
theorem YN {v:V} {more:List Value} {Q:Value->Shared->Prop} (I:Inv X pins σ H s) (e:H a=some (.dK kvs)) (ry:RelV (kV k) u) (l:Ae kvs k=some v) (hm:more=[]\/∃x,more=[x])
  (h:∀w' s',Inv X pins σ (upd H a (.dK (C6 kvs k))) s'->RelV v w'->Q w' s'):wpAny (model X.prog X.w) A (call (.builtin "dict.pop") (.ref a::u::more)) Q E s:=by
 obtain ⟨z,hd,vs,rel,dd⟩:=OG I.hok e
 obtain ⟨w',hw,rw'⟩:=Ds.some_of (v:=v) (o:=valueAt vs k) (by rw[<-l];exact rel.val k)
 have hp:(keyPart u).isSome=true:=by
  cases k with
  |inl i=>obtain ⟨t,q⟩:=(show ∃t,u=Value.int i t from ry);subst q;rfl
  |inr x=>obtain ⟨t,q⟩:=(show ∃t,u=Value.str x t from ry);subst q;rfl
 have ha:argsOk "dict.pop" ⟨.ref a::u::more,[]⟩:=by
  rcases hm with q|⟨x,q⟩
  ·subst q;exact PySem.F.args_dict_pop_2 _ _
  ·subst q;exact PySem.F.args_dict_pop_3 _ _ _
 refine call_meetsIn PySem.F.slot_dict_pop dd.typeIs PySem.F.entry_dict_pop ha (meets_dict_pop_there (B3 X.prog X.w) a (Hr ry) more hm hp)
  ⟨vs,w',dd,by rw[<-rel.length];exact z,hw,fun h' dd' hs=>h w' _ ?_ rw'⟩
 have he:∃q,h'.get? a=some q:=let ⟨q,_,_,hq,_⟩:=dd';⟨q,hq⟩
 exact Jg I (by rw[e];exact True.intro) hs he (Le (Nat.le_trans (NP kvs k) z) hd (rel.drop k) dd')
theorem YO {Q:Value->Shared->Prop} (I:Inv X pins σ H s) (e:Rd H a (.dK kvs)) (h:∀t s',Inv X pins σ H s'->Q (.int kvs.length t) s'):wpAny (model X.prog X.w) A (call (.builtin "len") [.ref a]) Q E s:=by
 obtain ⟨z,hd,vs,rel,dd⟩:=Hq I.hok e
 refine call_len_dict hd dd (by rw[<-rel.length];rw[sizeLine_eq]at z;omega) ?_
 rw[<-rel.length]
 exact h _ _ (I.tok _)
end
def Xx (i:Expr):Prop:=∀ov iv,subscripted i false ov iv=operate [ov,iv] (getItem ov iv)
theorem XJ {prog:Program} {w:World} {A:Around} {E:Value->Shared->Prop} {s:Shared} {env:Env} {value slice:Expr} {pos:Pos} {T id:String} {Q:Value->Shared->Prop}
  (hl:typeLookup (.type T) "__getitem__"=pure (some (.builtin id))) (hs:Xx slice)
  (h:wpAny (model prog w) A (eval value env) (fun o s₁=>wpAny (model prog w) A (eval slice env) (fun i s₂=>s₂.TypeIs o T/\wpAny (model prog w) A (getItem o i) Q E s₂) E s₁) E s):
  wpAny (model prog w) A (eval (.Subscript value slice pos) env) Q E s:=by
 refine Subscript_ (wpAny_mono h (fun o s₁ h₁=>wpAny_mono h₁ (fun i s₂ h₂=>?_) fun _ _ x=>x) fun _ _ x=>x)
 obtain ⟨hT,h₂⟩:=h₂
 unfold subscriptTail
 refine wpAny_bind ?_
 rw[getitemInPython_of_ne hT.not_modules]
 refine wpAny_bind (wpAny_specialOf hT hl ?_)
 have fin:wpAny (model prog w) A (subscripted slice false o i) (fun r s₃=>wpAny (model prog w) A (letTemporaryGo value o r>>=fun _=>pure r) Q E s₃) E s₂:=by
  rw[hs o i]
  exact wpAny_operating (wpAny_mono h₂ (fun r s₃ h₃=>wpAny_bind (wpAny_letTemporaryGo (wpAny_pure h₃))) fun _ _ x=>x)
 first
  |exact wpAny_pure (wpAny_bind fin)
  |exact wpAny_bind (wpAny_pure (wpAny_bind fin))
  |exact wpAny_bind fin
theorem Sv {X:Cx} {pins:List (Addr×Obj)} {σ:St} {H:Hp} {s:Shared} {a:Addr} {y:V} {o:Option V} (I:Inv X pins σ H s) (g:B0 H a y o):s.TypeIs (.ref a) "dict":=by
 rcases g with ⟨kvs,k,e,_,_⟩|⟨kvs,k,b,e,_,_,_⟩
 ·obtain ⟨_,_,vs,_,dd⟩:=Hq I.hok e
  exact dd.typeIs
 ·obtain ⟨_,_,xs,_,dd⟩:=KW I.hok e
  exact dd.typeIs
def Qm (td ty:TE):TE:=fun σ H Q=>td σ H fun x H1=>ty σ H1 fun y H2=>∃a v,x=.ref a/\B0 H2 a y (some v)/\Q v H2
def UZ (ty td:TE):TE:=fun σ H Q=>ty σ H fun y H1=>td σ H1 fun x H2=>∃a o,x=.ref a/\B0 H2 a y o/\Q (.bl o.isSome) H2
def MN (ty td:TE):TE:=fun σ H Q=>ty σ H fun y H1=>td σ H1 fun x H2=>∃a o,x=.ref a/\B0 H2 a y o/\Q (.bl (!o.isSome)) H2
def Qi (td ty tv:TE):TS:=fun D σ H=>tv σ H fun v H1=>td σ H1 fun x H2=>ty σ H2 fun y H3=>∃a H4,x=.ref a/\FW H3 a y v H4/\D.nx σ H4
section
variable {X:Cx} {o i e value:Expr} {pos pos' tpos:Pos} {td ty tv:TE}
theorem C9 (hu:X.A.units+1<cLine) (ho:PE X o td) (hi:PE X i ty) (hs:Xx i):PE X (.Subscript o i pos) (Qm td ty):=by
 intro pins s σ H Q I h
 refine XJ PySem.F.slot_dict_getitem.lookup hs (thn (ho pins s σ H _ I h) fun u s1 ⟨x,H1,I1,rx,q1⟩=>thn (hi pins s1 σ H1 _ I1 q1) fun iv s2 ⟨y,H2,I2,ry,a,v,ex,g,q2⟩=>?_)
 subst ex
 obtain rfl:u=Value.ref a:=rx
 exact ⟨Sv I2 g,Uv hu I2 g ry fun w' s3 I3 rw'=>⟨v,H2,I3,rw',q2⟩⟩
theorem VJ (hu:X.A.units+1<cLine) (hi:PE X i ty) (ho:PE X o td):PC X .In i o (UZ ty td):=by
 intro pins s σ H Q I h
 refine thn (hi pins s σ H _ I h) fun iv s1 ⟨y,H1,I1,ry,q1⟩=>thn (ho pins s1 σ H1 _ I1 q1) fun u s2 ⟨x,H2,I2,rx,a,ov,ex,g,q2⟩=>?_
 subst ex
 obtain rfl:u=Value.ref a:=rx
 exact Yk hu I2 g ry fun s3 I3=>⟨.bl ov.isSome,H2,I3,rfl,q2⟩
theorem Ci (hu:X.A.units+1<cLine) (hi:PE X i ty) (ho:PE X o td):PC X .NotIn i o (MN ty td):=by
 intro pins s σ H Q I h
 refine thn (hi pins s σ H _ I h) fun iv s1 ⟨y,H1,I1,ry,q1⟩=>thn (ho pins s1 σ H1 _ I1 q1) fun u s2 ⟨x,H2,I2,rx,a,ov,ex,g,q2⟩=>?_
 subst ex
 obtain rfl:u=Value.ref a:=rx
 exact Wp hu I2 g ry fun s3 I3=>⟨.bl (!ov.isSome),H2,I3,rfl,q2⟩
theorem DZ (hu:X.A.units+1<cLine) (ho:PE X o td) (hi:PE X i ty) (hv:PE X value tv) (hs:swapsWith value (some (.Subscript o i pos')) pos.line X.env=pure false):
  PS X (.Assign [.Subscript o i pos'] value pos) (Qi td ty tv):=by
 intro pins s σ H D I h
 refine wpAny_Assign_Subscript (thn (hv pins s σ H _ I h) fun r s1 ⟨v,H1,I1,rv,q1⟩=>thn (ho pins s1 σ H1 _ I1 q1) fun u s2 ⟨x,H2,I2,rx,q2⟩=>thn (hi pins s2 σ H2 _ I2 q2) fun iv s3 ⟨y,H3,I3,ry,a,H4,ex,g,q3⟩=>?_) hs
 subst ex
 obtain rfl:u=Value.ref a:=rx
 exact Uw hu I3 g ry rv fun s4 I4=>⟨σ,H4,I4,q3⟩
end
theorem SH {P:Program} {w:World} {H:Hp} (h:Heap) (hb:sysModules<h.objs.size):BV P w H (h.push {cls:=.type "dict",data:=.dict #[]}) h.objs.size (.dK []):=
 ⟨Nat.zero_le _,beq_eq_false_iff_ne.mpr (Ne.symm (Nat.ne_of_lt hb)),[],.nil,Heap.DictOf.new h⟩
def Y1:TE:=fun _ H Q=>∀p,H p=none->Q (.ref p) (upd H p (.dK []))
section
variable {X:Cx} {pos:Pos}
theorem Ge:PE X (.Dict [] [] pos) Y1:=fun pins s σ H Q I h=>
 wpAny_Dict_empty ⟨.ref s.heap.objs.size,_,I.laid (a:=s.heap.objs.size) (o:=.dK []) (t':=s.toks) (fun _ _ q=>Heap.get?_push_of_some _ q) (Nat.le_refl _) (SH s.heap I.big),rfl,h _ (I.hok.fresh (Nat.le_refl _))⟩
end
def Jt:List (TE×TE)->St->Hp->(List (V×V)->Hp->Prop)->Prop
 |[],_,H,Q=>Q [] H
 |(tk,tv)::r,σ,H,Q=>tk σ H fun x H1=>tv σ H1 fun y H2=>Jt r σ H2 fun ps H3=>Q ((x,y)::ps) H3
abbrev VV:List (V×V)->List (Value×Value)->Prop:=Paired fun p q=>RelV p.1 q.1/\RelV p.2 q.2
def PPs (X:Cx) (pos:Pos) (keys:List (Option Expr)) (values:List Expr) (trs:List (TE×TE)):Prop:=
 ∀(pins:List (Addr×Obj)) (s:Shared) (σ:St) (H:Hp) (Q:List (V×V)->Hp->Prop),Inv X pins σ H s->Jt trs σ H Q->
  wpAny (model X.prog X.w) X.A (evalPairs (pairTrees keys values X.env pos)) (fun vs s'=>∃ps H',Inv X pins σ H' s'/\VV ps vs/\Q ps H') X.xe s
theorem XV {X:Cx} {pos:Pos}:PPs X pos [] [] []:=fun pins s σ H Q I h=>pairTrees_nil_walk ⟨[],H,I,.nil,h⟩
theorem Rb {X:Cx} {pos:Pos} {k v:Expr} {ks:List (Option Expr)} {vs:List Expr} {tk tv:TE} {trs:List (TE×TE)} (hk:PE X k tk) (hv:PE X v tv) (hr:PPs X pos ks vs trs):
  PPs X pos (some k::ks) (v::vs) ((tk,tv)::trs):=fun pins s σ H Q I h=>
 pairTrees_cons_walk (thn (hk pins s σ H _ I h) fun u s1 ⟨x,H1,I1,rx,q1⟩=>thn (hv pins s1 σ H1 _ I1 q1) fun w2 s2 ⟨y,H2,I2,ry,q2⟩=>
  thn (hr pins s2 σ H2 _ I2 q2) fun ws s3 ⟨ps,H3,I3,rel,q3⟩=>⟨(x,y)::ps,H3,I3,.cons ⟨rx,ry⟩ rel,q3⟩)
def Il (kvs more:List (Key×V)):List (Key×V):=more.foldl (fun acc kv=>BB acc kv.1 kv.2) kvs
theorem KV.merge:∀{more:List (Key×V)} {rs:List (Key×Value)} {kvs:List (Key×V)} {vs:List (Key×Value)},KV more rs->KV kvs vs->KV (Il kvs more) (merged vs rs):=by
 intro more rs kvs vs r
 unfold KV at r
 induction r generalizing kvs vs with
 |nil=>intro q;exact q
 |@cons p q ps qs h t ih=>
  intro r0
  have e:KV (BB kvs p.1 p.2) (stored vs q.1 q.2):=by
   have:=r0.put p.1 h.2
   rw[<-h.1];exact this
  exact ih e
theorem Ku:∀(more kvs:List (Key×V)),(Il kvs more).length<=kvs.length+more.length
 |[],kvs=>by show kvs.length<=kvs.length+0;omega
 |p::r,kvs=>by
  have h1:=Ku r (BB kvs p.1 p.2)
  have h2:=Ja kvs p.1 p.2
  show (Il (BB kvs p.1 p.2) r).length<=_
  rw[List.length_cons];omega
theorem OO {P:Program} {w:World}:∀{kvs:List (Key×V)} {ws:List (Value×Value)},VV (kvs.map fun kv=>(kV kv.1,kv.2)) ws->∃rs,Carries (B3 P w) ws rs/\KV kvs rs
 |[],_,r=>by rw[List.map_nil]at r;cases r;exact ⟨[],True.intro,.nil⟩
 |p::kvs,_,r=>by
  rw[List.map_cons]at r
  cases r with
  |@cons a b as bs h t=>
   obtain ⟨rs,c,q⟩:=OO (P:=P) (w:=w) t
   obtain ⟨b1,b2⟩:=b
   exact ⟨(p.1,b2)::rs,⟨Hr h.1,rfl,c⟩,.cons ⟨rfl,h.2⟩ q⟩
def Ql (trs:List (TE×TE)):TE:=fun σ H Q=>∀p,H p=none->Jt trs σ (upd H p (.dK [])) fun ps H2=>H2 p=some (.dK [])/\∃kvs:List (Key×V),ps=kvs.map (fun kv=>(kV kv.1,kv.2))/\kvs.length<=15/\Q (.ref p) (upd H2 p (.dK (Il [] kvs)))
theorem XH {X:Cx} {pos:Pos} {keys:List (Option Expr)} {values:List Expr} {trs:List (TE×TE)} (h:PPs X pos keys values trs) (hall:keys.all (·.isSome)=true) (hl:keys.length=values.length) (h0:keys≠[])
  (h15:keys.length<=15):PE X (.Dict keys values pos) (Ql trs):=by
 intro pins s σ H Q I q
 have hn:=I.hok.fresh (Nat.le_refl s.heap.objs.size)
 have I1:=I.laid (a:=s.heap.objs.size) (o:=.dK []) (h':=s.heap.push {cls:=.type "dict",data:=.dict #[]}) (t':=s.toks) (fun _ _ q=>Heap.get?_push_of_some _ q) (Nat.le_refl _) (SH s.heap I.big)
 refine wpAny_Dict_walk (knd:=B3 X.prog X.w) hall hl h0 h15 (thn (h pins _ σ _ _ I1 (q _ hn)) fun ws s2 ⟨ps,H2,I2,rel,e,kvs,ep,lk,q2⟩=>?_)
 subst ep
 obtain ⟨rs,c,rk⟩:=OO (P:=X.prog) (w:=X.w) rel
 obtain ⟨z,hd,vs0,r0,dd⟩:=OG I2.hok e
 cases r0
 refine ⟨rs,c,dd,fun h' dd' hs=>⟨.ref s.heap.objs.size,_,?_,rfl,q2⟩⟩
 have hz:(Il [] kvs).length<=sizeLine:=by
  have h1:=Ku kvs []
  rw[List.length_nil]at h1
  rw[sizeLine_eq];omega
 have he:∃q,h'.get? s.heap.objs.size=some q:=let ⟨q,_,_,hq,_⟩:=dd';⟨q,hq⟩
 exact Jg I2 (by rw[e];exact True.intro) hs he (Le hz hd (rk.merge .nil) dd')
structure M1 (X:Cx) (o:Expr) (m:Str) (apos:Pos) (e:Expr) (cpos:Pos):Prop where
 base:attributeBase o m X.env (eval o X.env)=eval o X.env
 few:((backTo cpos (starEach [e] X.env)).all (fun x=>!x.1)&&(backToKw cpos (keywordEach [] X.env)).all (fun x=>x.1.isSome)
  &&decide (([e]:List Expr).length+([]:List Keyword).length+(if ([]:List Keyword).isEmpty then 0 else 1)<30))=true
 line:(apos.endLine==cpos.line)=true
 trees:backTo cpos (starEach [e] X.env)=[(false,eval e X.env)]
structure M2 (X:Cx) (o:Expr) (m:Str) (apos:Pos) (e f:Expr) (cpos:Pos):Prop where
 base:attributeBase o m X.env (eval o X.env)=eval o X.env
 few:((backTo cpos (starEach [e,f] X.env)).all (fun x=>!x.1)&&(backToKw cpos (keywordEach [] X.env)).all (fun x=>x.1.isSome)
  &&decide (([e,f]:List Expr).length+([]:List Keyword).length+(if ([]:List Keyword).isEmpty then 0 else 1)<30))=true
 line:(apos.endLine==cpos.line)=true
 trees:backTo cpos (starEach [e,f] X.env)=[(false,eval e X.env),(false,eval f X.env)]
def IsD (H:Hp) (a:Addr):Prop:=(∃kvs,Rd H a (.dK kvs))\/∃kvs,Rd H a (.dT kvs)
theorem Vf {X:Cx} {pins:List (Addr×Obj)} {σ:St} {H:Hp} {s:Shared} {a:Addr} (I:Inv X pins σ H s) (d:IsD H a):
  s.TypeIs (.ref a) "dict"/\(∀b,Value.ref a=.ref b->∃ob,s.heap.get? b=some ob/\ob.dict=none)/\(a==sysModules)=false:=by
 rcases d with ⟨kvs,e⟩|⟨kvs,e⟩
 ·obtain ⟨_,hd,vs,_,dd⟩:=Hq I.hok e
  refine ⟨dd.typeIs,fun b q=>?_,hd⟩
  cases q
  obtain ⟨ob,_,_,h1,h2,_⟩:=dd
  exact ⟨ob,h1,h2.2.1⟩
 ·obtain ⟨_,hd,xs,_,dd⟩:=KW I.hok e
  refine ⟨dd.typeIs,fun b q=>?_,hd⟩
  cases q
  obtain ⟨ob,_,_,h1,h2,_⟩:=dd
  exact ⟨ob,h1,h2.2.1⟩
section
variable {X:Cx} {pins:List (Addr×Obj)} {σ:St} {H:Hp} {s:Shared} {a:Addr} {y d:V} {u r:Value} {o:Option V} {A:Around} {E:Value->Shared->Prop}
theorem XY {Q:Value->Shared->Prop} (hu:A.units+1<cLine) (I:Inv X pins σ H s) (g:B0 H a y o) (ry:RelV y u) (rd:RelV d r) (h:∀w' s',Inv X pins σ H s'->RelV (o.getD d) w'->Q w' s'):
  wpAny (model X.prog X.w) A (call (.builtin "dict.get") [.ref a,u,r]) Q E s:=by
 rcases g with ⟨kvs,k,e,ey,l⟩|⟨kvs,k,b,e,ey,eb,l⟩
 ·subst ey
  obtain ⟨z,hd,vs,rel,dd⟩:=Hq I.hok e
  refine call_meetsIn PySem.F.slot_dict_get dd.typeIs PySem.F.entry_dict_get (PySem.F.args_dict_get_3 _ _ _) (meets_dict_get_default (B3 X.prog X.w) a (Hr ry) hd r) ⟨_,dd.mapOf,h _ _ (I.tok _) ?_⟩
  rw[l]
  exact (rel.val k).getD rd
 ·subst ey
  cases (show u=Value.ref b from ry)
  obtain ⟨z,hd,xs,rel,dd⟩:=KW I.hok e
  refine call_meetsIn PySem.F.slot_dict_get dd.typeIs PySem.F.entry_dict_get (PySem.F.args_dict_get_3 _ _ _) (meetsH_dict_get_default (tupleKind (B3 X.prog X.w)) a b hd r) ⟨tupleKind_room_in1 hu,k,xs,Ju I.hok eb,dd,h _ _ (I.tok _) ?_⟩
  rw[l]
  exact (rel.val k).getD rd
end
def OB (td ty tx:TE):TE:=fun σ H Q=>td σ H fun x H1=>∃a,x=.ref a/\IsD H1 a/\ty σ H1 fun y H2=>tx σ H2 fun z H3=>∃o,B0 H3 a y o/\Q (o.getD z) H3
def OA (td ty:TE):TE:=fun σ H Q=>td σ H fun x H1=>∃a,x=.ref a/\IsD H1 a/\ty σ H1 fun y H2=>∃kvs k v,H2 a=some (.dK kvs)/\y=kV k/\Ae kvs k=some v/\Q v (upd H2 a (.dK (C6 kvs k)))
section
variable {X:Cx} {o e f:Expr} {apos cpos:Pos} {td ty tx:TE}
theorem Wc (hu:X.A.units+1<cLine) (ho:PE X o td) (he:PE X e ty) (hf:PE X f tx) (m:M2 X o "get" apos e f cpos):PE X (.Call (.Attribute o "get" apos) [e,f] [] cpos) (OB td ty tx):=by
 intro pins s σ H Q I h
 refine wpAny_Call_method m.base m.few m.line PySem.F.plainAttrs_dict PySem.F.slot_dict_get PySem.F.type_dict_get (thn (ho pins s σ H _ I h) fun u s1 ⟨x,H1,I1,rx,a,ex,d,q1⟩=>?_)
 subst ex
 obtain rfl:u=Value.ref a:=rx
 obtain ⟨t1,t2,_⟩:=Vf I1 d
 refine ⟨t1,t2,?_⟩
 rw[m.trees]
 refine Calls.callWith_builtin rfl (Calls.evalArgs_plain (Calls.spliced_cons (thn (he pins s1 σ H1 _ I1 q1) fun iv s2 ⟨y,H2,I2,ry,q2⟩=>
  Calls.spliced_cons (thn (hf pins s2 σ H2 _ I2 q2) fun fv s3 ⟨z,H3,I3,rz,ov,g,q3⟩=>Calls.spliced_nil ?_))))
 exact XY hu I3 g ry rz fun w' s4 I4 rw'=>⟨_,H3,I4,rw',q3⟩
theorem NG (ho:PE X o td) (he:PE X e ty) (m:M1 X o "pop" apos e cpos):PE X (.Call (.Attribute o "pop" apos) [e] [] cpos) (OA td ty):=by
 intro pins s σ H Q I h
 refine wpAny_Call_method m.base m.few m.line PySem.F.plainAttrs_dict PySem.F.slot_dict_pop PySem.F.type_dict_pop (thn (ho pins s σ H _ I h) fun u s1 ⟨x,H1,I1,rx,a,ex,d,q1⟩=>?_)
 subst ex
 obtain rfl:u=Value.ref a:=rx
 obtain ⟨t1,t2,_⟩:=Vf I1 d
 refine ⟨t1,t2,?_⟩
 rw[m.trees]
 refine Calls.callWith_builtin rfl (Calls.evalArgs_plain (Calls.spliced_cons (thn (he pins s1 σ H1 _ I1 q1) fun iv s2 ⟨y,H2,I2,ry,kvs,k,v,ea,ey,l,q2⟩=>Calls.spliced_nil ?_)))
 subst ey
 exact YN I2 ea ry l (.inl rfl) fun w' s3 I3 rw'=>⟨v,_,I3,rw',q2⟩
end
section
variable {X:Cx} {pins:List (Addr×Obj)} {σ:St} {H:Hp} {s:Shared} {a:Addr} {kvs:List (Key×V)} {A:Around} {E:Value->Shared->Prop}
theorem Vt {Q:Value->Shared->Prop} (I:Inv X pins σ H s) (e:Rd H a (.dK kvs)) (h:∀p s',H p=none->Inv X pins σ (upd H p (.dK kvs)) s'->Q (.ref p) s'):wpAny (model X.prog X.w) A (call (.type "dict") [.ref a]) Q E s:=by
 obtain ⟨z,hd,vs,rel,dd⟩:=Hq I.hok e
 refine kt_call_dict hd dd (by rw[<-rel.length];exact z) fun h' dd' hs=>?_
 refine h _ _ (I.hok.fresh (Nat.le_refl _)) (I.laid (a:=s.heap.objs.size) (o:=.dK kvs) (t':=s.toks) (fun b q hq=>?_) (Nat.le_refl _) (Le z (beq_eq_false_iff_ne.mpr (Ne.symm (Nat.ne_of_lt I.big))) rel dd'))
 exact (hs.2 b (Nat.ne_of_lt (Heap.lt_size hq))).trans (Heap.get?_push_of_some _ hq)
end
end L2
namespace L2
open PySem PySem.Spec PyProof.Rows
theorem PK:bootBuiltins "reversed"=some (.type "reversed"):=by decide+kernel
section
variable {X:Cx} {pins:List (Addr×Obj)} {σ:St} {H:Hp} {s:Shared} {h':Heap}
theorem Inv.turnedNew {t':Nat} {ch:List Addr} {T:Addr} {ob:HO} (I:Inv X pins σ H s) (k:∀b o,b∉ch->s.heap.get? b=some o->h'.get? b=some o) (hf:∀b∈ch,Ib X pins H b) (hT:s.heap.objs.size<=T)
  (new:BV X.prog X.w (upd H T ob) h' T ob):Inv X pins σ (upd H T ob) {s with heap:=h',toks:=t'}:=by
 have hn:H T=none:=I.hok.fresh hT
 have nit:∀b u,H b=some u->b∉ch:=fun b u e z=>by
  have q:=(hf b z).1
  rw[q]at e;cases e
 refine I.step (g':=s.gens) (d':=s.drawn) (ch:=ch) (fun b hb=>⟨(hf b hb).2.2.2.1,(hf b hb).2.1,(hf b hb).2.2.2.2.1,(hf b hb).2.2.2.2.2⟩) (fun b o _ _ hc e _=>k b o hc e) (fun b o _ _ hc e _=>⟨o.slots,k b o hc e⟩)
  (fun b o _ e n=>?_) (fun b o hc e=>⟨o,k b o hc e⟩) (fun b xs e=>?_) (fun b o u e=>?_) (fun b ps e=>⟨#[],?_⟩) (fun m hm=>?_) (fun b u e=>?_) I.bare
 ·rw[A8 (Nat.ne_of_lt (Nat.lt_of_lt_of_le (Heap.lt_size e) hT))];exact n
 ·rw[A8 (AV e hn)];exact e
 ·rw[A8 (AV e hn)];exact e
 ·rw[A8 (AV e hn),e];simp
 ·obtain ⟨o,es,ep,ho,r⟩:=hm
  exact ⟨o,es,ep,k _ o (fun z=>(hf _ z).2.1 rfl) ho,r⟩
 ·by_cases hb:b=T
  ·subst hb
   rw[A4]at e
   cases e
   exact new
  ·rw[A8 hb]at e
   refine (I.hok b u e).stay (fun c v hc q=>k c v ?_ q) (fun c q=>by rw[A8 (AV q hn)];exact q) fun c xs q=>by rw[A8 (AV q hn)];exact q
   rcases hc with z|z
   ·rw[z];exact nit b u e
   ·exact nit c _ z
end
section
variable {X:Cx}
theorem VN {tg:Expr} {pins:List (Addr×Obj)} {σ:St} {H:Hp} {s:Shared} {R:It->Hp->Prop} {J:It} {tn:Nat->Heap->Prop} {tk:Nat} (I:Inv X pins σ H s) (o:Obj)
  (T:Li X.prog X.w X.K tg J [s.heap.objs.size] s.heap.objs.size tn) (st:tn 0 (s.heap.push o)) (q:R J H):PIE X pins σ tg R (.ref s.heap.objs.size) {s with heap:=s.heap.push o,toks:=tk}:=by
 refine ⟨s.heap.objs.size,[s.heap.objs.size],tn,J,H,rfl,I.kept fun b ob e=>Heap.get?_push_of_some _ e,T,st,fun b hb=>?_,q⟩
 have e:b=s.heap.objs.size:=by simpa using hb
 subst e
 exact I.fpOk (Nat.le_refl _) (I.hok.fresh (Nat.le_refl _))
end
def Itc (lo c:Int) (n:Nat):It:=⟨fun i _=>i<n,fun i H x H'=>H'=H/\x=.int (lo+(i:Nat)*c),fun i _=>n<=i⟩
theorem Sz {P:Program} {w:World} {K:PySem.W.Frag} {tg:Expr} (it:Addr) (lo c:Int) (n:Nat):Li P w K tg (Itc lo c n) [it] it (fun i h=>IsRangeIter h it (lo+(i:Nat)*c) ((n:Int) - (i:Nat)) c) where
 mem:=by simp
 obj:=fun i h st b hb=>by
  have e:b=it:=by simpa using hb
  subst e
  exact ⟨_,st,fun v z=>nomatch z⟩
 keep:=fun i h h' st k=>k it (by simp) _ st
 item:=by
  intro X hP hw hK hc i pins s σ H E I hf st hg
  subst hP hw hK
  obtain ⟨f0,f1,f2,f3,f4,f5⟩:=hf it (by simp)
  have W:=Walks.range (prog:=X.prog) (w:=X.w) (I.ok.hd hc) it lo c n
  refine W.item i s _ _ hg st fun v h' tk hv st' kk=>?_
  obtain ⟨t,rfl⟩:=hv
  have I1:Inv X pins σ H {s with heap:=h',toks:=tk}:=I.turned (fun b o hb e=>kk b o (by simpa using hb) e) f0 f1 f3 f4 f5
  exact ⟨_,rfl,Of (s:={s with heap:=h',toks:=tk}) (n:="range_iterator") st' rfl rfl (by decide) ⟨.int (lo+(i:Nat)*c),H,I1,⟨t,rfl⟩,⟨rfl,rfl⟩,st',fun b hb=>(hf b hb).1⟩⟩
 done:=by
  intro X hP hw hK hc i pins s σ H E I hf st hg
  subst hP hw hK
  obtain ⟨f0,f1,f2,f3,f4,f5⟩:=hf it (by simp)
  exact wpAny_pyNext_range_end (I.ok.hd hc) st (by have:n<=i:=hg;omega) fun h' eb=>⟨rfl,I.turned (t':=s.toks) (fun b o hb e=>eb b o hb e) f0 f1 f3 f4 f5⟩
 self:=fun A i s Q E st h=>wpAny_pyIter_rangeiter st h
def RgC (i j c:Int) (n:Nat):Prop:=c≠0/\c.natAbs<1073741824/\Builtin.Range.small i j c=true/\Builtin.Range.rangeSize i j c=n
theorem RgC.neg {i j:Int} (ha:-(2 ^ 62)<=i) (ha':i<2 ^ 62) (hb:-(2 ^ 62)<=j) (hb':j<2 ^ 62):RgC i j (-1) (i - j).toNat:=
 ⟨by decide,by decide,PySem.W.small_down ha ha' hb hb',PySem.W.rangeSize_downNat i j⟩
def Qu (ta:TA):TI:=fun σ H R=>ta σ H fun vs H1=>∃(i j c:Int) (n:Nat),vs=[.int i,.int j,.int c]/\RgC i j c n/\R (Itc i c n) H1
section
variable {X:Cx} {tg:Expr}
theorem Vh {a b c:Expr} {ta:TA} {p pos:Pos} (hg:Gl X "range") (hm:X.mg "range"=none) (ha:PA X [a,b,c] ta)
  (hs:starEach [a,b,c] X.env=(false,eval a X.env)::starEach [b,c] X.env:=by rfl) (hpl:(backTo pos (starEach [b,c] X.env)).any (·.1)=false:=by rfl):
  PI X tg (.Call (.Name "range" p) [a,b,c] [] pos) (Qu ta):=by
 intro pins s σ H R I h
 refine Call_ (Ij I hg hm boot_range (PyProof.Rows.callWith_type1 (thn (ha pos pins s σ H _ I h) fun us s1 ⟨vs,H1,I1,r1,q1⟩=>?_) hs hpl))
 obtain ⟨i,j,k,n,e,⟨c0,c1,c2,c3⟩,q⟩:=q1
 subst e
 cases r1 with
 |cons r rr=>
  cases rr with
  |cons r' rr=>
   cases rr with
   |cons r'' rr=>
    cases rr
    obtain ⟨t,rfl⟩:=r
    obtain ⟨t',rfl⟩:=r'
    obtain ⟨t'',rfl⟩:=r''
    refine call_range_3 c0 ?_ (.inl (PyProof.noPylong_small c1))
    refine wpAny_pyIter_range (IsRange.new ..) c2 ?_
    have I2:Inv X pins σ H1 {s1 with heap:=s1.heap.push {cls:=.type "range",data:=.fields #[.int i t,.int j t',.int k t'']}}:=I1.kept (t':=s1.toks) fun b o e=>Heap.get?_push_of_some _ e
    refine VN (tk:=s1.toks) I2 _ (Sz _ i k n) ?_ q
    have e1:i+((0:Nat):Int)*k=i:=by simp
    have e2:(n:Int) - ((0:Nat):Int)=Builtin.Range.rangeSize i j k:=by rw[c3];simp
    show IsRangeIter _ _ (i+((0:Nat):Int)*k) ((n:Int) - ((0:Nat):Int)) k
    rw[e1,e2]
    exact Heap.get?_push_size _ rfl
end
def Itv (K:PySem.W.Frag) (a:Addr) (n:Nat):It:=
 ⟨fun i H=>i<n/\∃(xs:List V) (x:V),SqL K H a xs/\xs[n - 1 - i]?=some x,fun i H x H'=>H'=H/\∀xs,SqL K H a xs->xs[n - 1 - i]?=some x,fun i _=>n<=i⟩
theorem WN {P:Program} {w:World} {K:PySem.W.Frag} {tg:Expr} (a it:Addr) (n:Nat):Li P w K tg (Itv K a n) [it] it (fun i h=>i<=n/\h.IsRevIter it a ((n:Int) - 1 - (i:Nat))) where
 mem:=by simp
 obj:=fun i h st b hb=>by
  have e:b=it:=by simpa using hb
  subst e
  obtain ⟨_,o,e,c,d⟩:=st
  exact ⟨o,e,fun v z=>by rw[d]at z;cases z⟩
 keep:=fun i h h' st k=>⟨st.1,st.2.at fun o e=>k it (by simp) o e⟩
 item:=by
  intro X hP hw hK hc i pins s σ H E I hf st hg
  subst hP hw hK
  obtain ⟨hin,xs,x,hq,hx⟩:=hg
  obtain ⟨its,rv,p,hz⟩:=I.list hq
  obtain ⟨u,hu,ru⟩:=rv.get hx
  obtain ⟨f0,f1,f2,f3,f4,f5⟩:=hf it (by simp)
  obtain ⟨_,hit⟩:=st
  have e1:(n:Int) - 1 - ((i:Nat):Int)=((n - 1 - i:Nat):Int):=by omega
  rw[e1]at hit
  refine wpAny_pyNext_rev_item hit p.isList (x:=u) (by simpa using hu) fun h' st' sb=>?_
  have e2:((n - 1 - i:Nat):Int) - 1=(n:Int) - 1 - ((i+1:Nat):Int):=by omega
  rw[e2]at st'
  have I1:Inv X pins σ H {s with heap:=h'}:=I.turned (t':=s.toks) (fun b o hb e=>(sb.2 b hb).trans e) f0 f1 f3 f4 f5
  obtain ⟨o,e,c,d⟩:=id st'
  exact ⟨u,rfl,Of (s:={s with heap:=h'}) e c d (by decide) ⟨x,H,I1,ru,⟨rfl,fun ys hy=>by rw[I.list_inj hy hq];exact hx⟩,⟨hin,st'⟩,fun b hb=>(hf b hb).1⟩⟩
 done:=by
  intro X hP hw hK hc i pins s σ H E I hf st hg
  subst hP hw hK
  obtain ⟨f0,f1,f2,f3,f4,f5⟩:=hf it (by simp)
  obtain ⟨hin,hit⟩:=st
  have hge:n<=i:=hg
  have e1:(n:Int) - 1 - ((i:Nat):Int)=-1:=by omega
  rw[e1]at hit
  exact wpAny_pyNext_rev_end (I.ok.hd hc) hit fun h' eb=>⟨rfl,I.turned (t':=s.toks) (fun b o hb e=>eb b o hb e) f0 f1 f3 f4 f5⟩
 self:=fun A i s Q E st h=>wpAny_pyIter_revIter st.2 h
def UU (K:PySem.W.Frag) (ta:TA):TI:=fun σ H R=>ta σ H fun vs H1=>∃(a:Addr) (xs:List V),vs=[.ref a]/\SqL K H1 a xs/\R (Itv K a xs.length) H1
section
variable {X:Cx} {tg:Expr}
theorem Mi {e:Expr} {ta:TA} {p pos:Pos} (hg:Gl X "reversed") (hm:X.mg "reversed"=none) (ha:PA X [e] ta) (hs:starEach [e] X.env=[(false,eval e X.env)]:=by rfl):PI X tg (.Call (.Name "reversed" p) [e] [] pos) (UU X.K ta):=by
 intro pins s σ H R I h
 refine Call_ (Ij I hg hm PK (PyProof.Rows.callWith_type1 (thn (ha pos pins s σ H _ I h) fun us s1 ⟨vs,H1,I1,r1,q1⟩=>?_) hs rfl))
 obtain ⟨a,xs,e,hq,q⟩:=q1
 subst e
 cases r1 with
 |cons r rr=>
  cases rr
  cases r
  obtain ⟨its,rv,p',hz⟩:=I1.list hq
  have hl:=rv.length
  have e1:((its.toArray.size:Nat):Int) - 1=(xs.length:Int) - 1 - ((0:Nat):Int):=by simp only[List.size_toArray];omega
  refine call_reversed_list p'.isList (wpAny_pyIter_revIter (l:=a) (i:=((its.toArray.size:Nat):Int) - 1) ⟨_,Heap.get?_push_size _ rfl,rfl,rfl⟩ ?_)
  refine VN (tk:=s1.toks) I1 _ (WN a _ xs.length) ⟨Nat.zero_le _,?_⟩ q
  rw[<-e1]
  exact ⟨_,Heap.get?_push_size _ rfl,rfl,rfl⟩
end
theorem By {α β:Type} {G:α->β->Prop} {l₁:List α} {l₂:List β} (h:Paired G l₁ l₂):∀{i:Nat} {a:α},l₁[i]?=some a->∃b,l₂[i]?=some b/\G a b:=by
 induction h with
 |nil=>intro i a e;simp at e
 |@cons a b l₁ l₂ r t ih=>
  intro i a' e
  cases i with
  |zero=>
   simp only[List.getElem?_cons_zero,Option.some.injEq]at e
   subst e
   exact ⟨b,rfl,r⟩
  |succ j=>
   simp only[List.getElem?_cons_succ]at e ⊢
   exact ih e
theorem WG {k:Key} {u:Value} (h:Kc k u=true):RelV (kV k) u:=by
 rcases Bq h with ⟨i,t,rfl,rfl⟩|⟨x,t,rfl,rfl⟩
 ·exact ⟨t,rfl⟩
 ·exact ⟨t,rfl⟩
def Ite (K:PySem.W.Frag) (a:Addr):It:=
 ⟨fun i H=>∃(xs:List V) (x:V),SqL K H a xs/\xs[i]?=some x,fun i H v H'=>∃T x,v=.ref T/\H T=none/\H'=upd H T (.tup [.int (i:Nat),x])/\∀xs,SqL K H a xs->xs[i]?=some x,fun i H=>∃xs:List V,SqL K H a xs/\xs.length<=i⟩
theorem VH {P:Program} {w:World} {K:PySem.W.Frag} {elts:List Expr} {kk:Nat} {tpos:Pos} (a e it:Addr):
  Li P w K (.Tuple elts kk tpos) (Ite K a) [e,it] e (fun i h=>(∃old,IsEnum h e it ((i:Nat):Int) old)/\h.IsListIter it a i/\e≠it) where
 mem:=by simp
 obj:=fun i h st b hb=>by
  obtain ⟨⟨old,he⟩,⟨o,ho,hc,hd⟩,_⟩:=st
  have e':b=e\/b=it:=by simpa using hb
  rcases e' with z|z
  ·rw[z];exact ⟨_,he,fun v q=>nomatch q⟩
  ·rw[z];exact ⟨o,ho,fun v q=>by rw[hd]at q;cases q⟩
 keep:=fun i h h' st k=>let ⟨⟨old,he⟩,hi,hne⟩:=st;⟨⟨old,k e (by simp) _ he⟩,hi.at fun o q=>k it (by simp) o q,hne⟩
 item:=by
  intro X hP hw hK hc i pins s σ H E I hf st hg
  subst hP hw hK
  obtain ⟨⟨old,he⟩,hit,hne⟩:=st
  obtain ⟨xs,x,hq,hx⟩:=hg
  obtain ⟨its,rv,p,hz⟩:=I.list hq
  obtain ⟨u,hu,ru⟩:=rv.get hx
  have hel:e<s.heap.objs.size:=Heap.lt_size he
  have hil:it<s.heap.objs.size:=by obtain ⟨_,q,_⟩:=hit;exact Heap.lt_size q
  refine wpAny_pyNext_enum_item he hit p.isList (x:=u) (by simpa using hu) hne fun h' ho hit' hT hsz hk=>?_
  refine ⟨_,rfl,wpAny_letOwnedTupleGo_enum (s:={s with heap:=h',toks:=s.toks+1}) ho fun h'' he' sb=>?_⟩
  have hT2:h''.get? s.heap.objs.size=some {cls:=.type "tuple",data:=.seq #[.int i s.toks,u]}:=(sb.2 _ (Nat.ne_of_gt hel)).trans hT
  have new:BV X.prog X.w (upd H s.heap.objs.size (.tup [.int (i:Nat),x])) h'' s.heap.objs.size (.tup [.int (i:Nat),x]):=
   ⟨by show 2<=sizeLine;decide,[.int i s.toks,u],.cons ⟨_,rfl⟩ (.cons ru .nil),⟨_,hT2,rfl,_,rfl⟩⟩
  have I1:Inv X pins σ (upd H s.heap.objs.size (.tup [.int (i:Nat),x])) {s with heap:=h'',toks:=s.toks+1}:=
   I.turnedNew (ch:=[e,it]) (fun b ob hb q=>(sb.2 b (fun z=>hb (by simp[z]))).trans (hk b ob (fun z=>hb (by simp[z])) (fun z=>hb (by simp[z])) q)) hf (Nat.le_refl _) new
  refine ⟨.ref s.heap.objs.size,_,I1,rfl,⟨_,x,rfl,I.hok.fresh (Nat.le_refl _),rfl,fun ys hy=>by rw[I.list_inj hy hq];exact hx⟩,⟨⟨u,?_⟩,hit'.at fun o q=>(sb.2 it (Ne.symm hne)).trans q,hne⟩,fun b hb=>?_⟩
  ·have e1:((i+1:Nat):Int)=(i:Int)+1:=by omega
   rw[e1];exact he'
  ·have hb':b<s.heap.objs.size:=by
    have e':b=e\/b=it:=by simpa using hb
    rcases e' with z|z
    ·rw[z];exact hel
    ·rw[z];exact hil
   rw[A8 (Nat.ne_of_lt hb')]
   exact (hf b hb).1
 done:=by
  intro X hP hw hK hc i pins s σ H E I hf st hg
  subst hP hw hK
  obtain ⟨⟨old,he⟩,hit,hne⟩:=st
  obtain ⟨xs,hq,hx⟩:=hg
  obtain ⟨its,rv,p,hz⟩:=I.list hq
  obtain ⟨f0,f1,f2,f3,f4,f5⟩:=hf it (by simp)
  have hl:=rv.length
  exact wpAny_pyNext_enum_end (I.ok.hd hc) he hit p.isList (by simp;omega) fun h' eb=>⟨rfl,I.turned (t':=s.toks) (fun b o hb q=>eb b o hb q) f0 f1 f3 f4 f5⟩
 self:=fun A i s Q E st h=>let ⟨⟨_,he⟩,_⟩:=st;wpAny_pyIter_enum he h
def Qv (K:PySem.W.Frag) (ta:TA):TI:=fun σ H R=>ta σ H fun vs H1=>∃a xs,vs=[.ref a]/\SqL K H1 a xs/\R (Ite K a) H1
theorem PM {X:Cx} {e:Expr} {ta:TA} {p pos tpos:Pos} {elts:List Expr} {kk:Nat} (hg:Gl X "enumerate") (hm:X.mg "enumerate"=none) (ha:PA X [e] ta) (hs:starEach [e] X.env=[(false,eval e X.env)]:=by rfl):
  PI X (.Tuple elts kk tpos) (.Call (.Name "enumerate" p) [e] [] pos) (Qv X.K ta):=by
 intro pins s σ H R I h
 refine Call_ (Ij I hg hm boot_enumerate (PyProof.Rows.callWith_type1 (thn (ha pos pins s σ H _ I h) fun us s1 ⟨vs,H1,I1,r1,q1⟩=>?_) hs rfl))
 obtain ⟨a,xs,ex,hq,q⟩:=q1
 subst ex
 cases r1 with
 |cons r rr=>
  cases rr
  cases r
  obtain ⟨its,rv,p',hz⟩:=I1.list hq
  refine call_enumerate_list p'.isList fun h' he hit hsz hk=>wpAny_pyIter_enum he ?_
  have I2:Inv X pins σ H1 {s1 with heap:=h'}:=I1.kept (t':=s1.toks) hk
  refine ⟨s1.heap.objs.size+1,[s1.heap.objs.size+1,s1.heap.objs.size],_,_,H1,rfl,I2,VH a (s1.heap.objs.size+1) s1.heap.objs.size,⟨⟨.none,he⟩,hit,Nat.succ_ne_self _⟩,fun b hb=>?_,q⟩
  have e':b=s1.heap.objs.size+1\/b=s1.heap.objs.size:=by simpa using hb
  have hle:s1.heap.objs.size<=b:=by
   rcases e' with z|z
   ·rw[z];exact Nat.le_add_right _ _
   ·rw[z];exact Nat.le_refl _
  exact I1.fpOk hle (I1.hok.fresh hle)
end L2
section 
end 
section 
namespace TL
open PySem PySem.Builtin PySem.Builtin.Str PySem.StrLaws
abbrev tl (x:Str):List Nat:=x.cps.toList
theorem YB (x:Str):x.length=(tl x).length:=by simp[tl,Str.length]
def pre (S l:List Nat):Bool:=l.take S.length==S
def par (S:List Nat):List Nat->List Nat->Option (List Nat×List Nat)
 |_,[]=>none
 |acc,c::r=>if pre S (c::r)=true then some (acc,(c::r).drop S.length) else par S (acc++[c]) r
theorem Lw {y:Str} (hy:tl y≠[]):1<=y.length:=by
 have e2:0<(tl y).length:=List.length_pos_iff.mpr hy
 rw[YB y]
 exact e2
end TL
end 
namespace L2
open PySem PySem.Spec PyProof.Rows
def KY (H:Hp):Prop:=∀b,H b=none\/∃o xs,H b=some (.frz o (.lst xs))
end L2
namespace L2
open PySem PySem.Spec PyProof.Rows
def D7 (s:Stmt) (j:Nat):Stmt:=match s with
 |.ClassDef _ _ _ body _ _ _ _ _ _ _=>body.getD j (.Pass ⟨0,0,0,0⟩)
 |_=>.Pass ⟨0,0,0,0⟩
def D8 (s:Stmt):Arguments:=match s with
 |.FunctionDef _ a _ _ _ _ _ _ _ _=>a
 |_=>{posonlyargs:=[],args:=[],vararg:=none,kwonlyargs:=[],kw_defaults:=[],kwarg:=none,defaults:=[]}
def C8 (s:Stmt):List Stmt:=match s with
 |.FunctionDef _ _ b _ _ _ _ _ _ _=>b
 |_=>[]
def A7 (s:Stmt):Scope:=match s with
 |.FunctionDef _ _ _ _ _ _ sc _ _ _=>sc
 |_=>{kind:=.function,names:=[],isGenerator:=false,isCoroutine:=false}
abbrev CX0:CXT:=fun _ _ _ _ _ _=>False
abbrev E0:XK:=fun _ _ _=>False
theorem OS {X:Cx}:HE CX0 X E0:=fun _ _ _ _ _ _ _ h=>h.elim
structure Fun (K:PySem.W.Frag) (x qual:Str) (st:Stmt) (f:Addr) (fd:FuncData):Prop where
 ex:∃(oc:Value) (od:Option Addr) (kV doc pm:Value) (an:Option Addr) (cdv ct:Value) (osl:Array (Option Value)),
  fd=PySem.W.fnOf x qual (D8 st) (C8 st) (A7 st) .none kV doc pm an cdv ct/\K.lookup f=some ⟨oc,od,.func fd,osl⟩/\PySem.W.codeIn K cdv qual=true
 kp:PySem.W.keepIn K (.ref f)=true
section
variable {P:Program} {w:World} {K:PySem.W.Frag} {mg:Str->Option Value} {base:Heap}
theorem Fun.ok {x qual:Str} {st:Stmt} {f:Addr} {fd:FuncData} {N ps:List Str} {k:Nat} {sp:Sp} (F:Fun K x qual st f fd) (S:AC N ps (A7 st)) (len:∀vs H Q E,sp vs H Q E->vs.length=ps.length)
  (hbody:∀(cdv:Value) (A:Around) (outer:List Env) (s:Shared) (H:Hp) (vs:List V) (Q:VK) (E:XK),BK k (A.deeper (envOfC qual (A7 st) s.heap.objs.size f cdv))->sp vs H Q E->
   ∃t,PSs (JX CX0 P w K mg base N qual (A7 st) f cdv A outer s H E).nox (C8 st) t/\t {nx:=fun _ H'=>Q .non H',rt:=Q} (start N vs) H):Ef P w K mg base CX0 (k+1) f fd ps sp:=by
 obtain ⟨oc,od,kV,doc,pm,an,cdv,ct,osl,rfl,lk,hcd⟩:=F.ex
 refine Ya lk hcd S len fun A outer s H vs Q E hr hsp=>?_
 obtain ⟨t,h,q⟩:=hbody cdv A outer s H vs Q E hr hsp
 exact ⟨t,h.nox,q⟩
theorem Fun.binds {x qual:Str} {st:Stmt} {f:Addr} {fd:FuncData} {ps:List Str} (F:Fun K x qual st f fd)
  (h:∀(kV doc pm:Value) (an:Option Addr) (cdv ct:Value) (us:List Value),us.length=ps.length->bindArgs (PySem.W.fnOf x qual (D8 st) (C8 st) (A7 st) .none kV doc pm an cdv ct) ⟨us,[]⟩=pure (ps.zip us)):Binds K fd ps []:=by
 obtain ⟨oc,od,kV,doc,pm,an,cdv,ct,osl,rfl,lk,hcd⟩:=F.ex
 exact .all (h kV doc pm an cdv ct)
theorem Ip {x qual:Str} {st:Stmt} {f:Addr} {oc:Value} {od an:Option Addr} {osl:Array (Option Value)} {kV doc pm cdv ct:Value} (l:K.lookup f=some ⟨oc,od,.func (PySem.W.fnOf x qual (D8 st) (C8 st) (A7 st) .none kV doc pm an cdv ct),osl⟩)
  (c:PySem.W.codeIn K cdv qual=true) (k:PySem.W.keepIn K (.ref f)=true):Fun K x qual st f (PySem.W.fnOf x qual (D8 st) (C8 st) (A7 st) .none kV doc pm an cdv ct):=⟨⟨oc,od,kV,doc,pm,an,cdv,ct,osl,rfl,l,c⟩,k⟩
end
theorem Ao {A:Around} {k:Nat} (hr:BK k A):A.units+1<cLine:=Nat.lt_of_le_of_lt (Nat.add_le_add_left (by decide:1<=64) _) hr.units
section
variable {X:Cx}
theorem pv (i:Nat) {x:Str} {pos:Pos} (hN:X.N[i]?=some x:=by rfl) (hv:Vis X.env.scope x:=by first|exact Or.inl rfl|exact Or.inr (Or.inl rfl)|exact Or.inr (Or.inr rfl)) (hd:(x==("__debug__":Str))=false:=by decide)
  (hcd:(x==("__classdict__":Str))=false:=by decide):PE X (.Name x pos) (Rp i):=Y7 hN hv hd hcd
theorem HB:Gp X (.builtin "len") (fun xs H Q=>∃a kvs,xs=[V.ref a]/\H a=some (.dK kvs)/\Q (.int kvs.length) H):=by
 intro pins s σ H xs us Q I r h
 obtain ⟨a,kvs,rfl,ha,q⟩:=h
 obtain ⟨u,rfl,ru⟩:=vals1 r
 cases ru
 exact YO I (.inl ha) fun t s' I'=>⟨.int kvs.length,H,I',⟨t,rfl⟩,q⟩
end
def A1 (H H':Hp):Prop:=∀b o,H b=some o->H' b=some o
theorem A1.refl (H:Hp):A1 H H:=fun _ _ h=>h
theorem A1.trans {H H1 H2:Hp} (a:A1 H H1) (b:A1 H1 H2):A1 H H2:=fun c o h=>b c o (a c o h)
theorem A1.seq {K:PySem.W.Frag} {H H':Hp} {a:Addr} {xs:List V} (e:A1 H H') (h:SqL K H a xs):SqL K H' a xs:=by
 rcases h with (h|⟨o,h⟩)|h
 ·exact .inl (.inl (e _ _ h))
 ·exact .inl (.inr ⟨o,e _ _ h⟩)
 ·exact .inr h
section
variable {κ:Type} [DecidableEq κ]
theorem Rv {kvs:List (κ×V)} {k:κ} (h:Ae kvs k=none):¬k∈kvs.map (·.1):=by
 intro m
 obtain ⟨p,hp,e⟩:=List.mem_map.mp m
 have q:(kvs.any fun kv=>decide (kv.1=k))=true:=List.any_eq_true.mpr ⟨p,hp,decide_eq_true e⟩
 rw[Dt,h]at q
 exact absurd q (by simp)
theorem MF {kvs:List (κ×V)} {k:κ} {v:V} (h:Ae kvs k=some v):k∈kvs.map (·.1):=by
 have q:(kvs.any fun kv=>decide (kv.1=k))=true:=by
  rw[Dt,h]
  all_goals rfl
 obtain ⟨p,hp,e⟩:=List.any_eq_true.mp q
 exact List.mem_map.mpr ⟨p,hp,of_decide_eq_true e⟩
theorem TD:∀{l:List κ} {k:κ},l.Nodup->¬k∈l->(l++[k]).Nodup
 |[],k,_,_=>by simp
 |a::r,k,h,hk=>by
  obtain ⟨h1,h2⟩:=List.nodup_cons.mp h
  show (a::(r++[k])).Nodup
  refine List.nodup_cons.mpr ⟨fun m=>?_,TD h2 fun m=>hk (List.mem_cons.mpr (Or.inr m))⟩
  rcases List.mem_append.mp m with q|q
  ·exact h1 q
  ·exact hk (List.mem_cons.mpr (Or.inl (List.mem_singleton.mp q).symm))
theorem Pw {p:κ×V} {r:List (κ×V)} {k:κ} (e:p.1=k):C6 (p::r) k=C6 r k:=by
 unfold C6
 rw[List.filter_cons,if_neg (by simp[e])]
theorem QC {p:κ×V} {r:List (κ×V)} {k:κ} (e:¬p.1=k):C6 (p::r) k=p::C6 r k:=by
 unfold C6
 rw[List.filter_cons,if_pos (by simp[e])]
theorem Pe {kvs:List (κ×V)} {k:κ} {p:κ×V} (h:p∈C6 kvs k):p∈kvs:=(List.mem_filter.mp h).1
theorem NS:∀{kvs:List (κ×V)} {k:κ},(kvs.map (·.1)).Nodup->((C6 kvs k).map (·.1)).Nodup
 |[],_,_=>List.nodup_nil
 |p::r,k,h=>by
  have h:(p.1::r.map (·.1)).Nodup:=h
  obtain ⟨h1,h2⟩:=List.nodup_cons.mp h
  by_cases e:p.1=k
  ·rw[Pw e]
   exact NS h2
  ·rw[QC e]
   show (p.1::(C6 r k).map (·.1)).Nodup
   refine List.nodup_cons.mpr ⟨fun m=>h1 ?_,NS h2⟩
   obtain ⟨q,hq,eq⟩:=List.mem_map.mp m
   exact List.mem_map.mpr ⟨q,Pe hq,eq⟩
end
theorem R0 {xs:List V} {z:Int} {j:Nat} {v:V} (e:z=(j:Int)) (h:xs[j]?=some v):atI xs z=some v:=by
 rw[e]
 exact CA h
theorem YY {α:Type} {l:List α} (hN:l.Nodup) {i j:Nat} {x:α} (a:l[i]?=some x) (b:l[j]?=some x):i=j:=by
 obtain ⟨h1,e1⟩:=List.getElem?_eq_some_iff.mp a
 obtain ⟨h2,e2⟩:=List.getElem?_eq_some_iff.mp b
 exact (List.getElem_inj hN).mp (e1.trans e2.symm)
end L2
end
section
section
namespace L2
open PySem PySem.Spec PyProof.Rows
open PySem.W (WData Codec OpenSpec Well WellAll ReadsW ReadsAllW)
mutual
inductive Dw (K:PySem.W.Frag) (H:Hp):V->WData->Prop
 |non:Dw K H .non .none
 |bl (b:Bool):Dw K H (.bl b) (.bool b)
 |int (i:Int):Dw K H (.int i) (.int i)
 |str (x:Str):Dw K H (.str x) (.str x)
 |byt (b:Array UInt8):Dw K H (.byt b) (.bytes b.toList)
 |lst {a:Addr} {xs:List V} {ds:List WData}:SqL K H a xs->FI K H xs ds->Dw K H (.ref a) (.list ds)
 |tup {a:Addr} {xs:List V} {ds:List WData}:SqT K H a xs->FI K H xs ds->Dw K H (.ref a) (.tuple ds)
inductive FI (K:PySem.W.Frag) (H:Hp):List V->List WData->Prop
 |nil:FI K H [] []
 |cons {v:V} {vs:List V} {d:WData} {ds:List WData}:Dw K H v d->FI K H vs ds->FI K H (v::vs) (d::ds)
end
theorem TM {K:PySem.W.Frag} {H:Hp}:∀ns:List Int,FI K H (ns.map V.int) (ns.map WData.int)
 |[]=>.nil
 |n::r=>.cons (.int n) (TM r)
theorem TZ {K:PySem.W.Frag} {H:Hp}:∀(ns:List Int) (xs:List V),FI K H xs (ns.map WData.int)->xs=ns.map V.int
 |[],xs,h=>by
  cases h
  rfl
 |n::r,xs,h=>by
  cases h with
  |cons h1 h2=>
   cases h1
   rw[TZ r _ h2]<;>rfl
section
variable {P:Program} {w:World} {K:PySem.W.Frag} {H:Hp} {h:Heap} {R:PySem.W.WRecords} {cl:Str->Option Addr}
theorem YE {a:Addr} {xs:List V} (hok:HOk P w H h) (KX:K.In h) (q:SqL K H a xs):∃(its:List Value) (o:Obj) (n:Nat),AS xs its/\h.get? a=some o/\o.cls=.type "list"/\o.data=.seq its.toArray n:=by
 rcases q with q|⟨o,its,n,e,hc,_,hd,_,hv⟩
 ·obtain ⟨_,its,n,hv,e⟩:=(show BV P w H h a (.lst xs) from q.ok hok)
  exact ⟨its,_,n,hv,e,rfl,rfl⟩
 ·exact ⟨its.toList,o,n,hv,KX _ _ e,hc,by simp[hd]⟩
theorem Xt {a:Addr} {xs:List V} (hok:HOk P w H h) (KX:K.In h) (q:SqT K H a xs):∃(its:List Value) (o:Obj) (n:Nat),AS xs its/\h.get? a=some o/\o.cls=.type "tuple"/\o.data=.seq its.toArray n:=by
 rcases q with q|⟨o,its,n,e,hc,hd,_,hv⟩
 ·obtain ⟨_,its,hv,o,e,hc,n,hd⟩:=(show BV P w H h a (.tup xs) from q.ok hok)
  exact ⟨its,o,n,hv,e,hc,hd⟩
 ·exact ⟨its.toList,o,n,hv,KX _ _ e,hc,by simp[hd]⟩
mutual
theorem Dw.reads (hok:HOk P w H h) (KX:K.In h):∀(d:WData) (v:V) (u:Value),Dw K H v d->RelV v u->∃as,ReadsW R cl h u d as
 |.none,_,_,x,r=>by
  cases x
  cases r
  exact ⟨_,ReadsW.none⟩
 |.bool b,_,_,x,r=>by
  cases x
  cases r
  exact ⟨_,ReadsW.bool b⟩
 |.int i,_,_,x,r=>by
  cases x
  obtain ⟨t,rfl⟩:=r
  exact ⟨_,ReadsW.int i t⟩
 |.str s,_,_,x,r=>by
  cases x
  obtain ⟨t,rfl⟩:=r
  exact ⟨_,ReadsW.str s t⟩
 |.bytes b,_,_,x,r=>by
  cases x
  obtain ⟨t,rfl⟩:=r
  exact ⟨_,ReadsW.bytes _ t⟩
 |.list ds,_,_,x,r=>by
  cases x with
  |lst hs ha=>
   cases r
   obtain ⟨its,o,n,rv,ho,hc,hd⟩:=YE hok KX hs
   obtain ⟨as,hr⟩:=Dw.readsAll hok KX ds _ its ha rv
   exact ⟨_,ReadsW.list ho hc hd hr⟩
 |.tuple ds,_,_,x,r=>by
  cases x with
  |tup hs ha=>
   cases r
   obtain ⟨its,o,n,rv,ho,hc,hd⟩:=Xt hok KX hs
   obtain ⟨as,hr⟩:=Dw.readsAll hok KX ds _ its ha rv
   exact ⟨_,ReadsW.tuple ho hc hd hr⟩
 |.float _,_,_,x,_=>by cases x
 |.dict _,_,_,x,_=>by cases x
 |.bytearray _,_,_,x,_=>by cases x
 |.set _,_,_,x,_=>by cases x
 |.frozenset _,_,_,x,_=>by cases x
 |.obj _ _,_,_,x,_=>by cases x
theorem Dw.readsAll (hok:HOk P w H h) (KX:K.In h):∀(ds:List WData) (vs:List V) (us:List Value),FI K H vs ds->AS vs us->∃as,ReadsAllW R cl h us ds as
 |[],_,_,x,r=>by
  cases x
  cases r
  exact ⟨_,ReadsAllW.nil⟩
 |d::ds,_,_,x,r=>by
  cases x with
  |cons h1 h2=>
   cases r with
   |cons r1 r2=>
    obtain ⟨as,q1⟩:=Dw.reads hok KX d _ _ h1 r1
    obtain ⟨bs,q2⟩:=Dw.readsAll hok KX ds _ _ h2 r2
    exact ⟨_,ReadsAllW.cons q1 q2⟩
end
end
mutual
def plW:WData->Bool
 |.none=>true
 |.bool _=>true
 |.int _=>true
 |.str _=>true
 |.bytes _=>true
 |.list xs=>Hb xs
 |.tuple xs=>Hb xs
 |_=>false
def Hb:List WData->Bool
 |[]=>true
 |x::r=>plW x&&Hb r
end
theorem Rc {α:Type} {f:α->WData} (h:∀a,plW (f a)=true):∀l:List α,Hb (l.map f)=true
 |[]=>rfl
 |x::r=>by
  show (plW (f x)&&Hb (r.map f))=true
  rw[h x,Rc h r]<;>rfl
theorem HC:∀(c:Codec) (a:c.denote),plW (c.enc a)=true
 |.unit,_=>rfl
 |.bool,_=>rfl
 |.int _ _,_=>rfl
 |.nat _ _,_=>rfl
 |.u8,_=>rfl
 |.bytes _ _,_=>rfl
 |.text _ _ _ _,_=>rfl
 |.list _ _ c,a=>Rc (fun x=>HC c x) a
 |.pair c d,a=>by
  show (plW (c.enc a.1)&&(plW (d.enc a.2)&&true))=true
  rw[HC c a.1,HC d a.2]<;>rfl
 |.triple c d e,a=>by
  show (plW (c.enc a.1)&&(plW (d.enc a.2.1)&&(plW (e.enc a.2.2)&&true)))=true
  rw[HC c a.1,HC d a.2.1,HC e a.2.2]<;>rfl
 |.option c,none=>rfl
 |.option c,some x=>HC c x
theorem Q0:∀(cs:List Codec) (a:Codec.denoteAll cs),Hb (Codec.encAll cs a)=true
 |[],_=>rfl
 |c::cs,a=>by
  show (plW (c.enc a.1)&&Hb (Codec.encAll cs a.2))=true
  rw[HC c a.1,Q0 cs a.2]<;>rfl
theorem KP:∀{xs:List WData} {d:WData},d∈xs->d.weight<=WData.weightAll xs
 |[],d,h=>absurd h (by simp)
 |x::r,d,h=>by
  show d.weight<=x.weight+1+WData.weightAll r
  rcases List.mem_cons.mp h with e|m
  ·rw[e]
   omega
  ·have z:=KP m
   omega
def toV:Value->V
 |.none=>.non
 |.bool b=>.bl b
 |.int i _=>.int i
 |.str x _=>.str x
 |.bytes b _=>.byt b
 |.ref a=>.ref a
 |_=>.non
def OkU (A:List Addr):Value->Prop
 |.none=>True
 |.bool _=>True
 |.int _ _=>True
 |.str _ _=>True
 |.bytes _ _=>True
 |.ref a=>a∈A
 |_=>False
theorem OkU.mono {A B:List Addr} (h:∀a∈A,a∈B):∀{u:Value},OkU A u->OkU B u:=fun {u} x=>by
 cases u with
 |ref a=>exact h a x
 |none=>trivial
 |bool b=>trivial
 |int i t=>trivial
 |str s t=>trivial
 |bytes b t=>trivial
 |_=>exact False.elim x
theorem WV {A:List Addr} {u:Value} (x:OkU A u):RelV (toV u) u:=by
 cases u with
 |ref a=>rfl
 |none=>rfl
 |bool b=>rfl
 |int i t=>exact ⟨t,rfl⟩
 |str s t=>exact ⟨t,rfl⟩
 |bytes b t=>exact ⟨t,rfl⟩
 |_=>exact False.elim x
theorem GZ {A:List Addr}:∀{vs:List Value},(∀u∈vs,OkU A u)->AS (vs.map toV) vs
 |[],_=>.nil
 |u::r,h=>.cons (WV (h u (List.mem_cons_self ..))) (GZ fun x hx=>h x (List.mem_cons_of_mem _ hx))
def FH (h:Heap) (A:List Addr) (a:Addr):Prop:=∃vs:List Value,vs.length<=sizeLine/\(∀u∈vs,OkU A u)/\
 (h.get? a=some {cls:=.type "list",data:=.seq vs.toArray}\/h.get? a=some {cls:=.type "tuple",data:=.seq vs.toArray})
theorem FH.mono {h:Heap} {A B:List Addr} {a:Addr} (k:∀a∈A,a∈B) (x:FH h A a):FH h B a:=by
 obtain ⟨vs,h1,h2,h3⟩:=x
 exact ⟨vs,h1,fun u hu=>(h2 u hu).mono k,h3⟩
theorem Gs {P:Params} {h:Heap}:∀{vs:List Value} {ds:List WData},WellAll P h vs ds->vs.length=ds.length
 |_,_,.nil=>rfl
 |_,_,.cons _ b=>by
  show _+1=_+1
  rw[Gs b]
theorem Py {P:Params} {h:Heap} {v:Value} {ds:List WData} (x:Well P h v (.list ds)):∃(a:Addr) (vs:List Value),v=.ref a/\h.get? a=some {cls:=.type "list",data:=.seq vs.toArray}/\WellAll P h vs ds:=by
 cases x with
 |list ho hall=>exact ⟨_,_,rfl,ho,hall⟩
theorem OH {P:Params} {h:Heap} {v:Value} {ds:List WData} (x:Well P h v (.tuple ds)):∃(a:Addr) (vs:List Value),v=.ref a/\h.get? a=some {cls:=.type "tuple",data:=.seq vs.toArray}/\WellAll P h vs ds:=by
 cases x with
 |tuple ho hall=>exact ⟨_,_,rfl,ho,hall⟩
theorem Pj {P:Params} {h:Heap} {us:List Value} {d:WData} {ds:List WData} (x:WellAll P h us (d::ds)):∃(v:Value) (vs:List Value),us=v::vs/\Well P h v d/\WellAll P h vs ds:=by
 cases x with
 |cons a b=>exact ⟨_,_,rfl,a,b⟩
theorem Ta {n:Nat} (h:n<=1048576):n<=sizeLine:=Nat.le_trans h (by decide)
section
variable {P:Params} {h:Heap}
mutual
theorem W8:∀(d:WData) (v:Value),Well P h v d->plW d=true->d.weight<=1048576->∃A:List Addr,OkU A v/\∀a∈A,FH h A a
 |.none,_,x,_,_=>by
  cases x
  exact ⟨[],trivial,fun a m=>absurd m (by simp)⟩
 |.bool b,_,x,_,_=>by
  cases x
  exact ⟨[],trivial,fun a m=>absurd m (by simp)⟩
 |.int i,_,x,_,_=>by
  cases x
  exact ⟨[],trivial,fun a m=>absurd m (by simp)⟩
 |.str s,_,x,_,_=>by
  cases x
  exact ⟨[],trivial,fun a m=>absurd m (by simp)⟩
 |.bytes b,_,x,_,_=>by
  cases x
  exact ⟨[],trivial,fun a m=>absurd m (by simp)⟩
 |.list ds,_,x,p,z=>by
  obtain ⟨a,vs,rfl,ho,hall⟩:=Py x
  have z2:WData.weightAll ds<=1048576:=z
  obtain ⟨A,h1,h2⟩:=KH ds _ hall p fun d hd=>Nat.le_trans (KP hd) z2
  have k:∀b∈A,b∈a::A:=fun b hb=>List.mem_cons_of_mem _ hb
  refine ⟨a::A,List.mem_cons_self ..,fun b hb=>?_⟩
  rcases List.mem_cons.mp hb with e|m
  ·rw[e]
   exact ⟨vs,Ta (by rw[Gs hall];exact Nat.le_trans (PySem.W.length_le_weightAllW ds) z2),fun u hu=>(h1 u hu).mono k,.inl ho⟩
  ·exact (h2 b m).mono k
 |.tuple ds,_,x,p,z=>by
  obtain ⟨a,vs,rfl,ho,hall⟩:=OH x
  have z2:WData.weightAll ds<=1048576:=z
  obtain ⟨A,h1,h2⟩:=KH ds _ hall p fun d hd=>Nat.le_trans (KP hd) z2
  have k:∀b∈A,b∈a::A:=fun b hb=>List.mem_cons_of_mem _ hb
  refine ⟨a::A,List.mem_cons_self ..,fun b hb=>?_⟩
  rcases List.mem_cons.mp hb with e|m
  ·rw[e]
   exact ⟨vs,Ta (by rw[Gs hall];exact Nat.le_trans (PySem.W.length_le_weightAllW ds) z2),fun u hu=>(h1 u hu).mono k,.inr ho⟩
  ·exact (h2 b m).mono k
 |.float _,_,_,p,_=>Bool.noConfusion (show false=true from p)
 |.dict _,_,_,p,_=>Bool.noConfusion (show false=true from p)
 |.bytearray _,_,_,p,_=>Bool.noConfusion (show false=true from p)
 |.set _,_,_,p,_=>Bool.noConfusion (show false=true from p)
 |.frozenset _,_,_,p,_=>Bool.noConfusion (show false=true from p)
 |.obj _ _,_,_,p,_=>Bool.noConfusion (show false=true from p)
theorem KH:∀(ds:List WData) (vs:List Value),WellAll P h vs ds->Hb ds=true->(∀d∈ds,d.weight<=1048576)->∃A:List Addr,(∀u∈vs,OkU A u)/\∀a∈A,FH h A a
 |[],_,x,_,_=>by
  cases x
  exact ⟨[],fun u m=>absurd m (by simp),fun a m=>absurd m (by simp)⟩
 |d::ds,_,x,p,z=>by
  obtain ⟨v,vs,rfl,x1,x2⟩:=Pj x
  have q:plW d=true/\Hb ds=true:=Bool.and_eq_true_iff.mp p
  obtain ⟨A,a1,a2⟩:=W8 d v x1 q.1 (z d (List.mem_cons_self ..))
  obtain ⟨B,b1,b2⟩:=KH ds vs x2 q.2 fun e he=>z e (List.mem_cons_of_mem _ he)
  have kA:∀b∈A,b∈A++B:=fun b hb=>List.mem_append.mpr (.inl hb)
  have kB:∀b∈B,b∈A++B:=fun b hb=>List.mem_append.mpr (.inr hb)
  refine ⟨A++B,fun u hu=>?_,fun b hb=>?_⟩
  ·rcases List.mem_cons.mp hu with e|m
   ·rw[e]
    exact a1.mono kA
   ·exact (b1 u m).mono kB
  ·rcases List.mem_append.mp hb with m|m
   ·exact (a2 b m).mono kA
   ·exact (b2 b m).mono kB
end
end
def Ul (o:Obj):Option HO:=match o.data with
 |.seq vs _=>if (o.cls==Value.type "list")=true then some (.frz o (.lst (vs.toList.map toV))) else some (.frz o (.tup (vs.toList.map toV)))
 |_=>none
def E1 (K:PySem.W.Frag) (h:Heap) (A:List Addr):Hp:=fun b=>if b∈A then (if (K.lookup b).isNone=true then (h.get? b).bind Ul else none) else none
def OU (H:Hp):Prop:=∀b,H b=none\/∃o u,H b=some (.frz o u)
theorem Rn (vs:List Value):Ul {cls:=.type "list",data:=.seq vs.toArray}=some (.frz {cls:=.type "list",data:=.seq vs.toArray} (.lst (vs.map toV))):=by
 show (if (Value.type "list"==Value.type "list")=true then some (HO.frz {cls:=.type "list",data:=.seq vs.toArray} (.lst (vs.toArray.toList.map toV))) else some (HO.frz {cls:=.type "list",data:=.seq vs.toArray} (.tup (vs.toArray.toList.map toV))))=_
 rw[if_pos (beq_self_eq_true _)]
theorem SB (vs:List Value):Ul {cls:=.type "tuple",data:=.seq vs.toArray}=some (.frz {cls:=.type "tuple",data:=.seq vs.toArray} (.tup (vs.map toV))):=by
 show (if (Value.type "tuple"==Value.type "list")=true then some (HO.frz {cls:=.type "tuple",data:=.seq vs.toArray} (.lst (vs.toArray.toList.map toV))) else some (HO.frz {cls:=.type "tuple",data:=.seq vs.toArray} (.tup (vs.toArray.toList.map toV))))=_
 rw[if_neg (by decide)]
section
variable {P:Program} {w:World} {K:PySem.W.Frag} {h:Heap} {A:List Addr}
theorem MJ {b:Addr} {o:Obj} (hb:b∈A) (hk:K.lookup b=none) (e:h.get? b=some o):E1 K h A b=Ul o:=by
 unfold E1
 rw[if_pos hb,hk,if_pos (show (none:Option Obj).isNone=true from rfl),e]<;>rfl
theorem XT {b:Addr} {u:HO} (q:E1 K h A b=some u):b∈A/\K.lookup b=none:=by
 unfold E1 at q
 by_cases hb:b∈A
 ·rw[if_pos hb]at q
  cases hk:K.lookup b with
  |none=>exact ⟨hb,rfl⟩
  |some o=>
   rw[hk,if_neg (by simp)]at q
   cases q
 ·rw[if_neg hb]at q
  cases q
theorem MI (ar:∀a∈A,FH h A a) {b:Addr} {u:HO} (q:E1 K h A b=some u):K.lookup b=none/\∃vs:List Value,vs.length<=sizeLine/\(∀u∈vs,OkU A u)/\
  ((h.get? b=some {cls:=.type "list",data:=.seq vs.toArray}/\u=.frz {cls:=.type "list",data:=.seq vs.toArray} (.lst (vs.map toV)))\/(h.get? b=some {cls:=.type "tuple",data:=.seq vs.toArray}/\u=.frz {cls:=.type "tuple",data:=.seq vs.toArray} (.tup (vs.map toV)))):=by
 obtain ⟨hb,hk⟩:=XT q
 obtain ⟨vs,h1,h2,h3⟩:=ar b hb
 refine ⟨hk,vs,h1,h2,?_⟩
 rcases h3 with e|e
 ·rw[MJ hb hk e,Rn]at q
  exact .inl ⟨e,(Option.some.inj q).symm⟩
 ·rw[MJ hb hk e,SB]at q
  exact .inr ⟨e,(Option.some.inj q).symm⟩
theorem VR (ar:∀a∈A,FH h A a):OU (E1 K h A):=fun b=>by
 cases q:E1 K h A b with
 |none=>exact .inl rfl
 |some u=>
  obtain ⟨_,vs,_,_,⟨_,e⟩|⟨_,e⟩⟩:=MI ar q
  ·exact .inr ⟨_,_,by rw[e]⟩
  ·exact .inr ⟨_,_,by rw[e]⟩
theorem XU (ar:∀a∈A,FH h A a):HOk P w (E1 K h A) h:=fun b u q=>by
 obtain ⟨_,vs,h1,h2,⟨e,rfl⟩|⟨e,rfl⟩⟩:=MI ar q
 ·exact ⟨e,by rw[List.length_map];exact h1,vs,_,GZ h2,e⟩
 ·exact ⟨e,by rw[List.length_map];exact h1,vs,GZ h2,_,e,rfl,_,rfl⟩
theorem MB {c c':Value} {vs us:List Value} (e:(some {cls:=c,data:=.seq vs.toArray}:Option Obj)=some {cls:=c',data:=.seq us.toArray}):c=c'/\vs=us:=by
 have e1:=Option.some.inj e
 have e2:c=c':=congrArg Obj.cls e1
 have e3:Data.seq vs.toArray=Data.seq us.toArray:=congrArg Obj.data e1
 injection e3 with e4
 refine ⟨e2,?_⟩
 have e5:=congrArg Array.toList e4
 simpa using e5
theorem Yh (KX:K.In h) (ar:∀a∈A,FH h A a) {a:Addr} {vs:List Value} (ha:a∈A) (e:h.get? a=some {cls:=.type "list",data:=.seq vs.toArray}):(∀u∈vs,OkU A u)/\SqL K (E1 K h A) a (vs.map toV):=by
 obtain ⟨us,h1,h2,h3⟩:=ar a ha
 have hu:us=vs:=by
  rcases h3 with q|q
  ·rw[e]at q
   exact (MB q).2.symm
  ·rw[e]at q
   exact absurd (Value.type.inj (MB q).1) (by decide)
 subst hu
 refine ⟨h2,?_⟩
 cases hk:K.lookup a with
 |none=>exact .inl (.inr ⟨_,by rw[MJ ha hk e,Rn]⟩)
 |some o=>
  have e2:=KX a o hk
  rw[e]at e2
  obtain rfl:=Option.some.inj e2
  exact .inr ⟨_,us.toArray,_,hk,rfl,rfl,rfl,by rw[List.size_toArray];exact h1,by simpa using GZ h2⟩
theorem Yq (KX:K.In h) (ar:∀a∈A,FH h A a) {a:Addr} {vs:List Value} (ha:a∈A) (e:h.get? a=some {cls:=.type "tuple",data:=.seq vs.toArray}):(∀u∈vs,OkU A u)/\SqT K (E1 K h A) a (vs.map toV):=by
 obtain ⟨us,h1,h2,h3⟩:=ar a ha
 have hu:us=vs:=by
  rcases h3 with q|q
  ·rw[e]at q
   exact absurd (Value.type.inj (MB q).1) (by decide)
  ·rw[e]at q
   exact (MB q).2.symm
 subst hu
 refine ⟨h2,?_⟩
 cases hk:K.lookup a with
 |none=>exact .inl (.inr ⟨_,by rw[MJ ha hk e,SB]⟩)
 |some o=>
  have e2:=KX a o hk
  rw[e]at e2
  obtain rfl:=Option.some.inj e2
  exact .inr ⟨_,us.toArray,_,hk,rfl,rfl,by rw[List.size_toArray];exact h1,by simpa using GZ h2⟩
mutual
theorem YH {Pm:Params} (KX:K.In h) (ar:∀a∈A,FH h A a):∀(d:WData) (v:Value),Well Pm h v d->plW d=true->OkU A v->Dw K (E1 K h A) (toV v) d
 |.none,_,x,_,_=>by
  cases x
  exact .non
 |.bool b,_,x,_,_=>by
  cases x
  exact .bl b
 |.int i,_,x,_,_=>by
  cases x
  exact .int i
 |.str s,_,x,_,_=>by
  cases x
  exact .str s
 |.bytes b,_,x,_,_=>by
  cases x
  have z:=Dw.byt (K:=K) (H:=E1 K h A) b.toArray
  exact z
 |.list ds,_,x,p,hu=>by
  obtain ⟨a,vs,rfl,ho,hall⟩:=Py x
  obtain ⟨h2,hs⟩:=Yh KX ar hu ho
  exact .lst hs (OX KX ar ds _ hall p h2)
 |.tuple ds,_,x,p,hu=>by
  obtain ⟨a,vs,rfl,ho,hall⟩:=OH x
  obtain ⟨h2,hs⟩:=Yq KX ar hu ho
  exact .tup hs (OX KX ar ds _ hall p h2)
 |.float _,_,_,p,_=>Bool.noConfusion (show false=true from p)
 |.dict _,_,_,p,_=>Bool.noConfusion (show false=true from p)
 |.bytearray _,_,_,p,_=>Bool.noConfusion (show false=true from p)
 |.set _,_,_,p,_=>Bool.noConfusion (show false=true from p)
 |.frozenset _,_,_,p,_=>Bool.noConfusion (show false=true from p)
 |.obj _ _,_,_,p,_=>Bool.noConfusion (show false=true from p)
theorem OX {Pm:Params} (KX:K.In h) (ar:∀a∈A,FH h A a):∀(ds:List WData) (vs:List Value),WellAll Pm h vs ds->Hb ds=true->(∀u∈vs,OkU A u)->FI K (E1 K h A) (vs.map toV) ds
 |[],_,x,_,_=>by
  cases x
  exact .nil
 |d::ds,_,x,p,hu=>by
  obtain ⟨v,vs,rfl,x1,x2⟩:=Pj x
  have q:plW d=true/\Hb ds=true:=Bool.and_eq_true_iff.mp p
  exact .cons (YH KX ar d v x1 q.1 (hu _ (List.mem_cons_self ..))) (OX KX ar ds vs x2 q.2 fun u m=>hu u (List.mem_cons_of_mem _ m))
end
end
theorem VB {P:Program} {w:World} {K:PySem.W.Frag} {mg mb:Str->Option Value} {CX:CXT} {k:Nat} {fa:Addr} {fd:FuncData} {ps:List Str} {sp:Sp} {s₁:Shared} {vals:List Value} {ds:List WData} {R:PySem.W.WRecords} {cl:Str->Option Addr} {d0:WData}
  (KX:K.In s₁.heap) (hns:s₁.heap.Ns mainGlobals mg) (hb:s₁.heap.Ns builtinsNs mb) (hbb:∀x:Str,x≠"__name__"->mb x=bootBuiltins x) (hlim:s₁.heap.NoLimit) (hg:s₁.gens=#[])
  (hwl:WellAll w.params s₁.heap vals ds) (hpl:Hb ds=true) (hwt:∀d∈ds,d.weight<=1048576) (hr:BK k callerA)
  (F:∀base:Heap,K.In base->base.Ns mainGlobals mg->Ef P w K mg base CX k fa fd ps sp) (hbind:∀(s:Shared) (us:List Value),us.length=ps.length->BindsTo s fd ⟨us,[]⟩ (ps.zip us)) (hlen:ds.length=ps.length)
  (hsp:∀(H:Hp) (xs:List V),OU H->FI K H xs ds->sp xs H (fun v H'=>Dw K H' v d0) fun _ _ _=>False)
  (hCX:∀H e s',CX [] H s₁ (fun _ _ _=>False) e s'->False):
  codeAny (model P w) callerA (.call (.ref fa) ⟨vals,[]⟩) (fun r s'=>∃u as,r=.ok (.ret u)/\ReadsW R cl s'.heap u d0 as/\OldK s₁.heap s'.heap/\s'.os=s₁.os/\AllBare s'.gens) s₁:=by
 obtain ⟨A,ho,ar⟩:=KH ds vals hwl hpl hwt
 have hO:OU (E1 K s₁.heap A):=VR ar
 have hok:HOk P w (E1 K s₁.heap A) s₁.heap:=XU ar
 have hS:=OX KX ar ds vals hwl hpl ho
 have hV:=GZ ho
 have hK:∀b u,E1 K s₁.heap A b=some u->K.lookup b=none:=fun b u q=>(MI ar q).1
 have noA:∀{b:Addr} {o:Obj} {es:Array DictEntry} {ep:Nat},s₁.heap.get? b=some o->o.data=.dict es ep->E1 K s₁.heap A b=none:=fun {b o es ep} e d=>by
  cases q:E1 K s₁.heap A b with
  |none=>rfl
  |some u=>
   obtain ⟨_,vs,_,_,⟨e2,_⟩|⟨e2,_⟩⟩:=MI ar q
   ·rw[e2]at e
    cases e
    have d':Data.seq vs.toArray _=Data.dict es ep:=d
    cases d'
   ·rw[e2]at e
    cases e
    have d':Data.seq vs.toArray _=Data.dict es ep:=d
    cases d'
 generalize E1 K s₁.heap A=H at hO hok hS hK noA
 have base_of:∀{b:Addr} {o:Obj},s₁.heap.get? b=some o->H b=none->(KU s₁.heap H).get? b=some o:=fun e n=>Wh e n
 have nsK:∀{b:Addr} {m:Str->Option Value},s₁.heap.Ns b m->(KU s₁.heap H).Ns b m:=fun {b m} ⟨o,es,ep,e,d,r⟩=>⟨o,es,ep,base_of e (noA e d),d,r⟩
 have nK:∀b o,K.lookup b=some o->H b=none:=fun b o e=>by
  cases q:H b with
  |none=>rfl
  |some u=>
   rw[hK b u q]at e
   cases e
 have hKb:K.In (KU s₁.heap H):=fun b o e=>base_of (KX b o e) (nK b o e)
 have hM:Mod K mg (KU s₁.heap H):=⟨hKb,nsK hns,⟨mb,nsK hb,hbb⟩,let ⟨mc,h1,h2⟩:=hlim;⟨mc,nsK h1,h2⟩⟩
 have e0:NO P w K mg (KU s₁.heap H) callerA [] s₁ H:=⟨rfl,hM,fun b o e=>XO e,Nat.le_of_eq (VP _ _),trivial,fun b hb=>absurd (show b∈([]:List Addr) from hb) (by simp),hok,.of_eq hg⟩
 have hl:vals.length=ps.length:=by rw[Gs hwl];exact hlen
 refine codeAny_mono ((F _ hKb (nsK hns)).run callerA [] s₁ H ⟨vals,[]⟩ vals (vals.map toV) _ _ hr e0 (hbind s₁ vals hl) hV (hsp H _ hO hS)) fun r s' x=>?_
 cases r with
 |error e=>exact (hCX H e s' x).elim
 |ok fl=>
  cases fl with
  |next=>exact False.elim x
  |brk=>exact False.elim x
  |cont=>exact False.elim x
  |ret u=>
   obtain ⟨v,H',os,bare,un,hok',r',q⟩:=x
   have kept:∀b o,s₁.heap.get? b=some o->s'.heap.get? b=some o:=fun b o e=>by
    cases q2:H b with
    |none=>exact un.keep b o e q2 (by intro z;exact absurd (show b∈([]:List Addr) from z) (by simp)) (by simp)
    |some u2=>
     rcases hO b with z|⟨ob,u3,z⟩
     ·rw[q2]at z
      cases z
     ·have z2:=un.frzs b ob _ z
      obtain ⟨e1,_⟩:=hok b _ z
      obtain ⟨e2,_⟩:=hok' b _ z2
      rw[e]at e1
      cases e1
      exact e2
   have KX':K.In s'.heap:=fun b o e=>kept b o (KX b o e)
   obtain ⟨as,hrd⟩:=Dw.reads (R:=R) (cl:=cl) hok' KX' d0 v u q r'
   exact ⟨u,as,rfl,hrd,OldK.of_keep kept,os,bare⟩
theorem PZ {ds:List WData} (h:WData.layableAll ds=true):∀d∈ds,d.weight<=1048576:=fun d hd=>
 (PySem.W.layableW_iff.mp (List.all_eq_true.mp h d hd)).2.2
theorem OF:∀(cs:List Codec) (a:Codec.denoteAll cs),(Codec.encAll cs a).length=cs.length
 |[],_=>rfl
 |c::cs,a=>by
  show (Codec.encAll cs a.2).length+1=cs.length+1
  rw[OF cs a.2]
theorem Vn {r:OpenSpec} {k:Nat} {q:Program} {loose:List Str} {XP:(Str->Option Value)->Heap->Prop} {YP:World->Heap->Prop} {d:DefRec} {K:Params->PySem.W.Frag} {CX:World->CXT} {ps:List Str} {sp:World->Sp}
  (hwell:r.wellSaid=true) (hdf:d.params.defaults=[]) (hlen:r.args.length=ps.length) (hr:BK k callerA)
  (hY:∀(w:World) (h:Heap),YP w h->(K w.params).In h)
  (F:∀(w:World) (mg:Str->Option Value) (fa:Addr) (h:Heap),YP w h->(K w.params).In h->h.Ns mainGlobals mg->mg d.name=some (.ref fa)->
   ∃fd:FuncData,(∀(s:Shared) (us:List Value),us.length=ps.length->BindsTo s fd ⟨us,[]⟩ (ps.zip us))/\
    ∀base:Heap,(K w.params).In base->base.Ns mainGlobals mg->Ef r.prog w (K w.params) mg base (CX w) k fa fd ps (sp w))
  (hsp:∀(w:World) (H:Hp) (xs:List V) (a:Codec.denoteAll r.args),OU H->Codec.withinAll r.args a=true->Codec.app r.args r.asked a=true->FI (K w.params) H xs (Codec.encAll r.args a)->
   sp w xs H (fun v H'=>Dw (K w.params) H' v (r.ret.enc (Codec.app r.args r.f a))) fun _ _ _=>False)
  (hCX:∀(w:World) (H:Hp) (s:Shared) (e:Value) (s':Shared),CX w [] H s (fun _ _ _=>False) e s'->False):
  PySem.W.WalkOS q loose XP YP r d [] (fun f vs=>PySem.call f vs):=by
 intro w s_0 s₁ mg mb G Y fa o pm cd doc dV kV ho hd hcd hD hmg hg args vals as hpre hlay hrd hwl hlo
 obtain ⟨a,e1,e2⟩:=PySem.W.os_pre_some hpre
 obtain ⟨e3,hwi⟩:=Codec.encAll_of_decAll r.args args a e1
 subst e3
 have KX:=hY w _ Y
 obtain ⟨fd,hb,hF⟩:=F w mg fa _ Y KX G.T.g hmg
 refine PySem.W.enter_call (codeAny_mono (VB (R:=[]) (cl:=classAt s_0.heap) (d0:=r.ret.enc (Codec.app r.args r.f a)) KX G.T.g G.T.b G.T.builtins G.T.nolimit hg hwl (Q0 _ _) (PZ hlay) hr hF hb (by rw[OF];exact hlen)
  (fun H xs hO hS=>hsp w H xs a hO hwi e2 hS) fun H e s'=>hCX w H s₁ e s') fun r' s' hq=>?_)
 obtain ⟨u,as',rfl,h1,h2,h3,h4⟩:=hq
 exact ⟨.inl ⟨u,_,as',rfl,fun _=>rfl,h1,(OpenSpec.post_iff hwell hwi _ _).mpr rfl,fun z=>Bool.noConfusion (show false=true from z)⟩,h2,h3,h4⟩
theorem Uj {r:OpenSpec} {k:Nat} {q:Program} {loose:List Str} {XP:(Str->Option Value)->Heap->Prop} {YP:World->Heap->Prop} {d:DefRec} {K:Params->PySem.W.Frag} {CX:CXT} {ps:List Str} {sp:PySem.W.Frag->Sp}
  (hwell:r.wellSaid=true) (hdf:d.params.defaults=[]) (hlen:r.args.length=ps.length) (hr:BK k callerA)
  (hY:∀(w:World) (h:Heap),YP w h->(K w.params).In h)
  (F:∀(w:World) (mg:Str->Option Value) (fa:Addr) (h:Heap),YP w h->(K w.params).In h->h.Ns mainGlobals mg->mg d.name=some (.ref fa)->
   ∃fd:FuncData,(∀(s:Shared) (us:List Value),us.length=ps.length->BindsTo s fd ⟨us,[]⟩ (ps.zip us))/\
    ∀base:Heap,(K w.params).In base->base.Ns mainGlobals mg->Ef r.prog w (K w.params) mg base CX k fa fd ps (sp (K w.params)))
  (hsp:∀(K:PySem.W.Frag) (H:Hp) (xs:List V) (a:Codec.denoteAll r.args),OU H->Codec.withinAll r.args a=true->Codec.app r.args r.asked a=true->FI K H xs (Codec.encAll r.args a)->
   sp K xs H (fun v H'=>Dw K H' v (r.ret.enc (Codec.app r.args r.f a))) fun _ _ _=>False)
  (hCX:∀(H:Hp) (s:Shared) (e:Value) (s':Shared),CX [] H s (fun _ _ _=>False) e s'->False):
  PySem.W.WalkOS q loose XP YP r d [] (fun f vs=>PySem.call f vs):=
 Vn (K:=K) (CX:=fun _=>CX) (sp:=fun w=>sp (K w.params)) hwell hdf hlen hr hY F (fun w H xs a h1 h2 h3 h4=>hsp (K w.params) H xs a h1 h2 h3 h4) fun _ H s e s'=>hCX H s e s'
end L2
end
end
section
namespace Ps
open VapatBase
theorem L4 (x y t:Nat):swapToken x y (swapToken x y t)=t:=by
 unfold swapToken;grind
theorem CY (x y:Nat) (l:List Nat):swapAll x y (swapAll x y l)=l:=by
 simp only[swapAll,List.map_map]
 have:(swapToken x y∘swapToken x y)=id:=by funext t;simp[L4]
 rw[this,List.map_id]
theorem AR (x y:Nat) (l:List Nat):(swapAll x y l).length=l.length:=by simp[swapAll]
theorem GB {x y u v:Nat} (h:¬x=u/\¬x=v/\¬y=u/\¬y=v) (l:List Nat):
  swapAll x y (swapAll u v l)=swapAll u v (swapAll x y l):=by
 simp only[swapAll,List.map_map]
 congr 1
 funext t
 simp only[Function.comp,swapToken]
 grind
inductive In where
 |h (a:Nat) (o n:List Nat)
 |s (x y:Nat)
inductive S where
 |ins (f:Nat) (i:In)
 |add (f:Nat)
 |rem (f:Nat)
 |mov (f g:Nat)
def ci:In->In->Option (In×In)
 |.h a o n,.h b u v=>
  if a+n.length<b then some (.h (b - n.length+o.length) u v,.h a o n)
  else if b+u.length<a then some (.h b u v,.h (a - u.length+v.length) o n) else none
 |.h a o n,.s x y=>some (.s x y,.h a (swapAll x y o) (swapAll x y n))
 |.s x y,.h b u v=>some (.h b (swapAll x y u) (swapAll x y v),.s x y)
 |.s x y,.s u v=>if ¬x=u/\¬x=v/\¬y=u/\¬y=v then some (.s u v,.s x y) else none
def ti:In->In
 |.h a o n=>.h a n o
 |.s x y=>.s x y
theorem ci1 {p q q' p':In} (h:ci p q=some (q',p')):ci q' p'=some (p,q):=by
 cases p<;>cases q<;>simp only[ci]at h<;>grind [ci,CY,AR]
theorem ci2 {p q q' p':In} (h:ci p q=some (q',p')):ci (ti p) q'=some (q,ti p'):=by
 cases p<;>cases q<;>simp only[ci]at h<;>grind [ci,ti,CY,AR]
theorem Yl {p q q' p':In} (h:ci p q=some (q',p')):ci (ti q) (ti p)=some (ti p',ti q'):=by
 cases p<;>cases q<;>simp only[ci]at h<;>grind [ci,ti,CY,AR]
theorem CS {a b:Nat} {o n u v:List Nat} (h:a+n.length<b):ci (.h a o n) (.h b u v)=some (.h (b - n.length+o.length) u v,.h a o n):=by
 simp only[ci];rw[if_pos h]
theorem CQ {a b:Nat} {o n u v:List Nat} (h:b+u.length<a):ci (.h a o n) (.h b u v)=some (.h b u v,.h (a - u.length+v.length) o n):=by
 simp only[ci];rw[if_neg (by omega),if_pos h]
theorem Dc {a b:Nat} {o n u v:List Nat} {q p:In} (h:ci (.h a o n) (.h b u v)=some (q,p)):
  (a+n.length<b/\q=.h (b - n.length+o.length) u v/\p=.h a o n)\/(b+u.length<a/\q=.h b u v/\p=.h (a - u.length+v.length) o n):=by
 simp only[ci]at h
 split at h
 ·cases h;exact Or.inl ⟨by assumption,rfl,rfl⟩
 ·split at h
  ·cases h;exact Or.inr ⟨by assumption,rfl,rfl⟩
  ·cases h
theorem Dg {x y u v:Nat} {q p:In} (h:ci (.s x y) (.s u v)=some (q,p)):(¬x=u/\¬x=v/\¬y=u/\¬y=v)/\q=.s u v/\p=.s x y:=by
 simp only[ci]at h
 split at h
 ·cases h;exact ⟨by assumption,rfl,rfl⟩
 ·cases h
theorem HD {x y u v:Nat} (h:¬x=u/\¬x=v/\¬y=u/\¬y=v):ci (.s x y) (.s u v)=some (.s u v,.s x y):=by
 simp only[ci];rw[if_pos h]
theorem DU {a b a' b':Nat} {o n u v:List Nat} (h:a=b) (h':a'=b'):some (In.h a o n,In.h a' u v)=some (In.h b o n,In.h b' u v):=by rw[h,h']
theorem Yt {p q r q1 p1 r1 p2 r2 q2:In} (h1:ci p q=some (q1,p1)) (h2:ci p1 r=some (r1,p2)) (h3:ci q1 r1=some (r2,q2)):
  ∃s t u,ci q r=some (s,t)/\ci p s=some (r2,u)/\ci u t=some (q2,p2):=by
 cases p<;>cases q<;>cases r
 ·rcases Dc h1 with ⟨k1,e1,e1'⟩|⟨k1,e1,e1'⟩<;>subst e1<;>subst e1'<;>
  rcases Dc h2 with ⟨k2,e2,e2'⟩|⟨k2,e2,e2'⟩<;>subst e2<;>subst e2'<;>
  rcases Dc h3 with ⟨k3,e3,e3'⟩|⟨k3,e3,e3'⟩<;>subst e3<;>subst e3'<;>
  first
  |(exfalso;omega)
  |exact ⟨_,_,_,CS (by omega),(CS (by omega)).trans (DU (by omega) rfl),(CS (by omega)).trans (DU (by omega) (by omega))⟩
  |exact ⟨_,_,_,CS (by omega),(CS (by omega)).trans (DU (by omega) rfl),(CQ (by omega)).trans (DU (by omega) (by omega))⟩
  |exact ⟨_,_,_,CS (by omega),(CQ (by omega)).trans (DU (by omega) rfl),(CS (by omega)).trans (DU (by omega) (by omega))⟩
  |exact ⟨_,_,_,CS (by omega),(CQ (by omega)).trans (DU (by omega) rfl),(CQ (by omega)).trans (DU (by omega) (by omega))⟩
  |exact ⟨_,_,_,CQ (by omega),(CS (by omega)).trans (DU (by omega) rfl),(CS (by omega)).trans (DU (by omega) (by omega))⟩
  |exact ⟨_,_,_,CQ (by omega),(CS (by omega)).trans (DU (by omega) rfl),(CQ (by omega)).trans (DU (by omega) (by omega))⟩
  |exact ⟨_,_,_,CQ (by omega),(CQ (by omega)).trans (DU (by omega) rfl),(CS (by omega)).trans (DU (by omega) (by omega))⟩
  |exact ⟨_,_,_,CQ (by omega),(CQ (by omega)).trans (DU (by omega) rfl),(CQ (by omega)).trans (DU (by omega) (by omega))⟩
 ·rcases Dc h1 with ⟨k1,e1,e1'⟩|⟨k1,e1,e1'⟩<;>subst e1<;>subst e1'<;>cases h2<;>cases h3
  ·exact ⟨_,_,_,rfl,rfl,by rw[CS (by simpa [AR] using k1)];simp[AR]⟩
  ·exact ⟨_,_,_,rfl,rfl,by rw[CQ (by simpa [AR] using k1)];simp[AR]⟩
 ·cases h1
  rcases Dc h2 with ⟨k2,e2,e2'⟩|⟨k2,e2,e2'⟩<;>subst e2<;>subst e2'<;>cases h3<;>try simp only[AR]at k2
  ·exact ⟨_,_,_,rfl,(CS (by simpa [AR] using k2)).trans (by rw[AR,AR]),rfl⟩
  ·exact ⟨_,_,_,rfl,CQ (by simpa [AR] using k2),by simp[ci,AR]⟩
 ·cases h1;cases h2
  obtain ⟨k,e,e'⟩:=Dg h3
  subst e;subst e'
  exact ⟨_,_,_,HD k,rfl,by simp only[ci,GB k]⟩
 ·cases h1;cases h2
  rcases Dc h3 with ⟨k2,e2,e2'⟩|⟨k2,e2,e2'⟩<;>subst e2<;>subst e2'<;>try simp only[AR]at k2
  ·exact ⟨_,_,In.s _ _,CS (by simpa [AR] using k2),by simp[ci,AR],rfl⟩
  ·exact ⟨_,_,In.s _ _,CQ (by simpa [AR] using k2),rfl,by simp[ci,AR]⟩
 ·cases h1
  obtain ⟨k,e,e'⟩:=Dg h2
  subst e;subst e'
  cases h3
  exact ⟨_,_,_,rfl,HD k,by simp only[ci,GB k]⟩
 ·obtain ⟨k,e,e'⟩:=Dg h1
  subst e;subst e'
  cases h2;cases h3
  exact ⟨_,_,_,rfl,by simp only[ci,GB k],HD k⟩
 ·obtain ⟨k,e,e'⟩:=Dg h1
  subst e;subst e'
  obtain ⟨k2,e,e'⟩:=Dg h2
  subst e;subst e'
  obtain ⟨k3,e,e'⟩:=Dg h3
  subst e;subst e'
  exact ⟨_,_,_,HD k3,HD k2,HD k⟩
theorem ci4 {p q r q1 p1 r1 p2 r2 q2:In} (h1:ci (ti p) q=some (q1,p1)) (h2:ci (ti p) r=some (r1,p2)) (h3:ci (ti q) r=some (r2,q2)):
  ∃x y,ci (ti q1) r1=some (x,y):=by
 cases p<;>cases q<;>cases r<;>simp only[ti]at h1 h2 h3
 ·rcases Dc h1 with ⟨k1,e1,e1'⟩|⟨k1,e1,e1'⟩<;>subst e1<;>subst e1'<;>
  rcases Dc h2 with ⟨k2,e2,e2'⟩|⟨k2,e2,e2'⟩<;>subst e2<;>subst e2'<;>
  rcases Dc h3 with ⟨k3,e3,e3'⟩|⟨k3,e3,e3'⟩<;>
  first
  |(exfalso;omega)
  |exact ⟨_,_,CS (by omega)⟩
  |exact ⟨_,_,CQ (by omega)⟩
 ·rcases Dc h1 with ⟨k1,e1,e1'⟩|⟨k1,e1,e1'⟩<;>subst e1<;>subst e1'<;>cases h2<;>exact ⟨_,_,rfl⟩
 ·rcases Dc h2 with ⟨k1,e1,e1'⟩|⟨k1,e1,e1'⟩<;>subst e1<;>subst e1'<;>cases h1<;>exact ⟨_,_,rfl⟩
 ·cases h1;cases h2
  obtain ⟨k3,e,e'⟩:=Dg h3
  exact ⟨_,_,HD k3⟩
 ·cases h1;cases h2
  rcases Dc h3 with ⟨k3,e3,e3'⟩|⟨k3,e3,e3'⟩
  ·exact ⟨_,_,CS (by simpa [AR] using k3)⟩
  ·exact ⟨_,_,CQ (by simpa [AR] using k3)⟩
 ·cases h1
  obtain ⟨k3,e,e'⟩:=Dg h2
  subst e;subst e'
  exact ⟨_,_,rfl⟩
 ·cases h2
  obtain ⟨k3,e,e'⟩:=Dg h1
  subst e;subst e'
  exact ⟨_,_,rfl⟩
 ·obtain ⟨k,e,e'⟩:=Dg h1
  subst e;subst e'
  obtain ⟨k2,e,e'⟩:=Dg h2
  subst e;subst e'
  obtain ⟨k3,e,e'⟩:=Dg h3
  exact ⟨_,_,HD k3⟩
def cS:S->S->Option (S×S)
 |.ins f i,.ins g j=>if f=g then (match ci i j with
  |some (j',i')=>some (.ins f j',.ins f i')
  |none=>none) else some (.ins g j,.ins f i)
 |.ins f i,.add g=>if f=g then none else some (.add g,.ins f i)
 |.ins f i,.rem g=>if f=g then none else some (.rem g,.ins f i)
 |.ins f i,.mov g k=>if f=g then some (.mov g k,.ins k i) else if f=k then none else some (.mov g k,.ins f i)
 |.add f,.ins g j=>if f=g then none else some (.ins g j,.add f)
 |.add f,.add g=>if f=g then none else some (.add g,.add f)
 |.add f,.rem g=>if f=g then none else some (.rem g,.add f)
 |.add f,.mov g k=>if f=g\/f=k then none else some (.mov g k,.add f)
 |.rem f,.ins g j=>if f=g then none else some (.ins g j,.rem f)
 |.rem f,.add g=>if f=g then none else some (.add g,.rem f)
 |.rem f,.rem g=>if f=g then none else some (.rem g,.rem f)
 |.rem f,.mov g k=>if f=g\/f=k then none else some (.mov g k,.rem f)
 |.mov f h,.ins g j=>if h=g then some (.ins f j,.mov f h) else if f=g then none else some (.ins g j,.mov f h)
 |.mov f h,.add g=>if f=g\/h=g then none else some (.add g,.mov f h)
 |.mov f h,.rem g=>if f=g\/h=g then none else some (.rem g,.mov f h)
 |.mov f h,.mov g k=>if f=g\/h=g\/f=k\/h=k then none else some (.mov g k,.mov f h)
def tS:S->S
 |.ins f i=>.ins f (ti i)
 |.add f=>.rem f
 |.rem f=>.add f
 |.mov f g=>.mov g f
def okS:S->Prop
 |.mov f g=>f≠g
 |_=>True
theorem DT {f g:Nat} {i j:In} (h:¬f=g):cS (.ins f i) (.ins g j)=some (.ins g j,.ins f i):=by
 simp only[cS];rw[if_neg h]
theorem G8 {f:Nat} {i j i' j':In} (h:ci i j=some (j',i')):cS (.ins f i) (.ins f j)=some (.ins f j',.ins f i'):=by
 simp[cS,h]
theorem Ei {f g:Nat} {i j:In} {q p:S} (h:cS (.ins f i) (.ins g j)=some (q,p)):
  (¬f=g/\q=.ins g j/\p=.ins f i)\/(f=g/\∃j' i',ci i j=some (j',i')/\q=.ins f j'/\p=.ins f i'):=by
 by_cases e:f=g
 ·subst e
  simp only[cS,if_true]at h
  cases hc:ci i j with
  |none=>simp[hc]at h
  |some r=>
   simp[hc]at h
   exact Or.inr ⟨rfl,r.1,r.2,by simp,h.1.symm,h.2.symm⟩
 ·rw[DT e]at h;cases h
  exact Or.inl ⟨e,rfl,rfl⟩
theorem cS1 {p q q' p':S} (hp:okS p) (hq:okS q) (h:cS p q=some (q',p')):cS q' p'=some (p,q):=by
 cases p<;>cases q
 ·rcases Ei h with ⟨k,e,e'⟩|⟨k,j',i',hc,e,e'⟩<;>subst e<;>subst e'
  ·exact DT (Ne.symm k)
  ·subst k;exact G8 (ci1 hc)
 all_goals simp only[cS,okS]at h hp hq<;>grind [cS]
theorem cS2 {p q q' p':S} (hp:okS p) (hq:okS q) (h:cS p q=some (q',p')):cS (tS p) q'=some (q,tS p'):=by
 cases p<;>cases q
 ·rcases Ei h with ⟨k,e,e'⟩|⟨k,j',i',hc,e,e'⟩<;>subst e<;>subst e'
  ·exact DT k
  ·subst k;exact G8 (ci2 hc)
 all_goals simp only[cS,okS]at h hp hq<;>grind [cS,tS]
theorem Yj {p q q' p':S} (hp:okS p) (hq:okS q) (h:cS p q=some (q',p')):cS (tS q) (tS p)=some (tS p',tS q'):=by
 cases p<;>cases q
 ·rcases Ei h with ⟨k,e,e'⟩|⟨k,j',i',hc,e,e'⟩<;>subst e<;>subst e'
  ·exact DT (Ne.symm k)
  ·subst k;exact G8 (Yl hc)
 all_goals simp only[cS,okS]at h hp hq<;>grind [cS,tS]
theorem YZ {p q q' p':S} (hp:okS p) (hq:okS q) (h:cS p q=some (q',p')):okS q'/\okS p':=by
 cases p<;>cases q
 ·rcases Ei h with ⟨k,e,e'⟩|⟨k,j',i',hc,e,e'⟩<;>subst e<;>subst e'<;>simp[okS]
 all_goals simp only[cS,okS]at h hp hq<;>grind [okS]
theorem YV {p:S} (hp:okS p):okS (tS p):=by
 cases p<;>simp[okS,tS]at hp ⊢
 exact Ne.symm hp
end Ps
end
section
namespace Ps
open VapatBase
theorem Yf {p q r q1 p1 r1 p2 r2 q2:S} (hp:okS p) (hq:okS q) (hr:okS r) (h1:cS p q=some (q1,p1)) (h2:cS p1 r=some (r1,p2)) (h3:cS q1 r1=some (r2,q2)):
  match cS q r with
  |some (s,t)=>(match cS p s with
   |some (x,u)=>x=r2/\cS u t=some (q2,p2)
   |none=>False)
  |none=>False:=by
 cases p with
 |ins f i=>
  cases q with
  |ins g j=>
   cases r with
   |ins k l=>
    rcases Ei h1 with ⟨k1,e,e'⟩|⟨k1,x1,x2,y1,e,e'⟩<;>subst e<;>subst e'<;>try subst k1
    all_goals rcases Ei h2 with ⟨k2,e,e'⟩|⟨k2,x3,x4,y2,e,e'⟩<;>subst e<;>subst e'<;>try subst k2
    all_goals rcases Ei h3 with ⟨k3,e,e'⟩|⟨k3,x5,x6,y3,e,e'⟩<;>subst e<;>subst e'<;>try subst k3
    all_goals try contradiction
    ·simp[DT k3,DT k2,DT k1]
    ·simp[G8 y3,DT k1,DT k1]
    ·simp[DT k3,G8 y2,DT k1]
    ·simp[DT k2,DT k2,G8 y1]
    ·obtain ⟨s,t,u,z1,z2,z3⟩:=Yt y1 y2 y3
     simp[G8 z1,G8 z2,G8 z3]
   |_=>simp only[okS]at hp hq hr;grind [cS]
  |_=>cases r<;>simp only[okS]at hp hq hr<;>grind [cS]
 |_=>cases q<;>cases r<;>simp only[okS]at hp hq hr<;>grind [cS]
theorem cS4 {p q r q1 p1 r1 p2 r2 q2:S} (hp:okS p) (hq:okS q) (hr:okS r) (h1:cS (tS p) q=some (q1,p1)) (h2:cS (tS p) r=some (r1,p2)) (h3:cS (tS q) r=some (r2,q2)):
  (cS (tS q1) r1).isSome=true:=by
 cases p with
 |ins f i=>
  cases q with
  |ins g j=>
   cases r with
   |ins k l=>
    simp only[tS]at h1 h2 h3
    rcases Ei h1 with ⟨k1,e,e'⟩|⟨k1,x1,x2,y1,e,e'⟩<;>subst e<;>subst e'<;>try subst k1
    all_goals rcases Ei h2 with ⟨k2,e,e'⟩|⟨k2,x3,x4,y2,e,e'⟩<;>subst e<;>subst e'<;>try subst k2
    all_goals rcases Ei h3 with ⟨k3,e,e'⟩|⟨k3,x5,x6,y3,e,e'⟩<;>try subst k3
    all_goals try contradiction
    ·simp[tS,DT k3]
    ·simp[tS,G8 y3]
    ·simp[tS,DT k3]
    ·simp[tS,DT k3]
    ·obtain ⟨x,y,z⟩:=ci4 y1 y2 y3
     simp[tS,G8 z]
   |_=>simp only[okS]at hp hq hr;grind [cS,tS]
  |_=>cases r<;>simp only[okS]at hp hq hr<;>grind [cS,tS]
 |_=>cases q<;>cases r<;>simp only[okS]at hp hq hr<;>grind [cS,tS]
def toS:Step->S
 |.hunk f a o n=>.ins f (.h a o n)
 |.swap f x y=>.ins f (.s x y)
 |.add f=>.add f
 |.remove f=>.rem f
 |.move f g=>.mov f g
def ofS:S->Step
 |.ins f (.h a o n)=>.hunk f a o n
 |.ins f (.s x y)=>.swap f x y
 |.add f=>.add f
 |.rem f=>.remove f
 |.mov f g=>.move f g
theorem Da (p:Step):ofS (toS p)=p:=by cases p<;>rfl
theorem Pb (p:S):toS (ofS p)=p:=by
 cases p with
 |ins f i=>cases i<;>rfl
 |_=>rfl
theorem Dy (p:Step):toS (turned p)=tS (toS p):=by cases p<;>rfl
def Ok (p:Step):Prop:=okS (toS p)
def pr (x:Step×Step):S×S:=(toS x.1,toS x.2)
theorem Ic {p q:Step} (hp:Ok p) (hq:Ok q):(commuted p q).map pr=cS (toS p) (toS q):=by
 cases p<;>cases q<;>simp only[Ok,okS,toS]at hp hq<;>simp[commuted,disjoint,namesOf,isInside,commutedInside,inFile,toS,cS,ci]<;>grind [pr,toS]
end Ps
end
section
namespace Ps
open VapatBase
open Vapatc (Patch Row)
theorem IZ {p q q' p':Step} (hp:Ok p) (hq:Ok q) (h:commuted p q=some (q',p')):cS (toS p) (toS q)=some (toS q',toS p'):=by
 rw[<-Ic hp hq,h];rfl
theorem PJ {p q:Step} {x y:S} (hp:Ok p) (hq:Ok q) (h:cS (toS p) (toS q)=some (x,y)):commuted p q=some (ofS x,ofS y):=by
 rw[<-Ic hp hq]at h
 cases hc:commuted p q with
 |none=>simp[hc]at h
 |some r=>
  simp[hc,pr]at h
  rw[<-h.1,<-h.2,Da,Da]
theorem okc {p q q' p':Step} (hp:Ok p) (hq:Ok q) (h:commuted p q=some (q',p')):Ok q'/\Ok p':=YZ hp hq (IZ hp hq h)
theorem okt {p:Step} (hp:Ok p):Ok (turned p):=by
 unfold Ok;rw[Dy];exact YV hp
theorem Kq (p:Step):turned (turned p)=p:=by cases p<;>rfl
theorem st1 {p q q' p':Step} (hp:Ok p) (hq:Ok q) (h:commuted p q=some (q',p')):commuted q' p'=some (p,q):=by
 have k:=okc hp hq h
 have:=PJ k.1 k.2 (cS1 hp hq (IZ hp hq h))
 rwa [Da,Da]at this
theorem st2 {p q q' p':Step} (hp:Ok p) (hq:Ok q) (h:commuted p q=some (q',p')):commuted (turned p) q'=some (q,turned p'):=by
 have k:=okc hp hq h
 have:=cS2 hp hq (IZ hp hq h)
 rw[<-Dy,<-Dy]at this
 have:=PJ (okt hp) k.1 this
 rwa [Da,Da]at this
theorem Ys {p q q' p':Step} (hp:Ok p) (hq:Ok q) (h:commuted p q=some (q',p')):commuted (turned q) (turned p)=some (turned p',turned q'):=by
 have:=Yj hp hq (IZ hp hq h)
 simp only[<-Dy]at this
 have:=PJ (okt hq) (okt hp) this
 rwa [Da,Da]at this
theorem st3 {p q r q1 p1 r1 p2 r2 q2:Step} (hp:Ok p) (hq:Ok q) (hr:Ok r) (h1:commuted p q=some (q1,p1)) (h2:commuted p1 r=some (r1,p2)) (h3:commuted q1 r1=some (r2,q2)):
  ∃s t u,commuted q r=some (s,t)/\commuted p s=some (r2,u)/\commuted u t=some (q2,p2):=by
 have k1:=okc hp hq h1
 have k2:=okc k1.2 hr h2
 have k3:=okc k1.1 k2.1 h3
 have:=Yf hp hq hr (IZ hp hq h1) (IZ k1.2 hr h2) (IZ k1.1 k2.1 h3)
 split at this
 next s t e1=>
  split at this
  next x u e2=>
   obtain ⟨e3,e4⟩:=this
   subst e3
   have a1:=PJ hq hr e1
   have o1:=okc hq hr a1
   rw[<-Pb s]at e2
   have a2:=PJ hp o1.1 e2
   have o2:=okc hp o1.1 a2
   rw[<-Pb u,<-Pb t]at e4
   have a3:=PJ o2.2 o1.2 e4
   rw[Da]at a2
   rw[Da,Da]at a3
   exact ⟨_,_,_,a1,a2,a3⟩
  next=>exact this.elim
 next=>exact this.elim
theorem st4 {p q r q1 p1 r1 p2 r2 q2:Step} (hp:Ok p) (hq:Ok q) (hr:Ok r) (h1:commuted (turned p) q=some (q1,p1)) (h2:commuted (turned p) r=some (r1,p2)) (h3:commuted (turned q) r=some (r2,q2)):
  ∃x y,commuted (turned q1) r1=some (x,y):=by
 have k1:=okc (okt hp) hq h1
 have k2:=okc (okt hp) hr h2
 have e1:=IZ (okt hp) hq h1
 have e2:=IZ (okt hp) hr h2
 have e3:=IZ (okt hq) hr h3
 rw[Dy]at e1 e2 e3
 have:=cS4 hp hq hr e1 e2 e3
 rw[<-Dy,<-Ic (okt k1.1) k2.1]at this
 cases hc:commuted (turned q1) r1 with
 |none=>simp[hc]at this
 |some r=>exact ⟨r.1,r.2,rfl⟩
def okb:Step->Bool
 |.move f g=>f !=g
 |_=>true
theorem MA (p:Step):okb p=true↔Ok p:=by
 cases p<;>simp[okb,Ok,okS,toS]
def cP (p q:Patch):Option (Patch×Patch):=if okb p.step&&okb q.step then (commuted p.step q.step).map fun r=>(⟨q.name,r.1⟩,⟨p.name,r.2⟩) else none
def tP (p:Patch):Patch:=⟨p.name,turned p.step⟩
theorem Bw {p q q' p':Patch}:cP p q=some (q',p')↔Ok p.step/\Ok q.step/\commuted p.step q.step=some (q'.step,p'.step)/\q'.name=q.name/\p'.name=p.name:=by
 unfold cP
 by_cases h:(okb p.step&&okb q.step)=true
 ·rw[if_pos h]
  simp only[Bool.and_eq_true,MA]at h
  cases hc:commuted p.step q.step with
  |none=>simp
  |some r=>
   simp only[Option.map_some,Option.some.injEq,Prod.mk.injEq]
   constructor
   ·rintro ⟨rfl,rfl⟩;exact ⟨h.1,h.2,by simp,rfl,rfl⟩
   ·rintro ⟨-,-,e,e1,e2⟩
    cases q';cases p';simp_all
 ·rw[if_neg h]
  simp only[Bool.and_eq_true,MA]at h
  constructor
  ·intro e;cases e
  ·rintro ⟨a,b,-⟩;exact (h ⟨a,b⟩).elim
theorem Qt {p q:Patch} {x y:Step} (hp:Ok p.step) (hq:Ok q.step) (h:commuted p.step q.step=some (x,y)):cP p q=some (⟨q.name,x⟩,⟨p.name,y⟩):=
 Bw.2 ⟨hp,hq,h,rfl,rfl⟩
theorem Js {p q q' p':Patch} (h:cP p q=some (q',p')):q'.name=q.name/\p'.name=p.name:=(Bw.1 h).2.2.2
theorem Kd (p:Patch):tP (tP p)=p:=by cases p;simp[tP,Kq]
theorem p1 {p q q' p':Patch} (h:cP p q=some (q',p')):cP q' p'=some (p,q):=by
 obtain ⟨hp,hq,h,e1,e2⟩:=Bw.1 h
 have k:=okc hp hq h
 exact Bw.2 ⟨k.1,k.2,st1 hp hq h,e2.symm,e1.symm⟩
theorem p2 {p q q' p':Patch} (h:cP p q=some (q',p')):cP (tP p) q'=some (q,tP p'):=by
 obtain ⟨hp,hq,h,e1,e2⟩:=Bw.1 h
 have k:=okc hp hq h
 exact Bw.2 ⟨okt hp,k.1,st2 hp hq h,e1.symm,e2⟩
theorem p2' {p q q' p':Patch} (h:cP p q=some (q',p')):cP (tP q) (tP p)=some (tP p',tP q'):=by
 obtain ⟨hp,hq,h,e1,e2⟩:=Bw.1 h
 exact Bw.2 ⟨okt hq,okt hp,Ys hp hq h,e2,e1⟩
theorem p3 {p q r q1 p1 r1 p2 r2 q2:Patch} (h1:cP p q=some (q1,p1)) (h2:cP p1 r=some (r1,p2)) (h3:cP q1 r1=some (r2,q2)):
  ∃s t u,cP q r=some (s,t)/\cP p s=some (r2,u)/\cP u t=some (q2,p2):=by
 obtain ⟨hp,hq,h1,e1,e1'⟩:=Bw.1 h1
 obtain ⟨_,hr,h2,e2,e2'⟩:=Bw.1 h2
 obtain ⟨_,_,h3,e3,e3'⟩:=Bw.1 h3
 obtain ⟨s,t,u,a1,a2,a3⟩:=st3 hp hq hr h1 h2 h3
 have k1:=okc hq hr a1
 have k2:=okc hp k1.1 a2
 exact ⟨⟨r.name,s⟩,⟨q.name,t⟩,⟨p.name,u⟩,Qt hq hr a1,Bw.2 ⟨hp,k1.1,a2,by simp[e3,e2],rfl⟩,Bw.2 ⟨k2.2,k1.2,a3,by simp[e3',e1],by simp[e2',e1']⟩⟩
theorem p4 {p q r q1 p1 r1 p2 r2 q2:Patch} (h1:cP (tP p) q=some (q1,p1)) (h2:cP (tP p) r=some (r1,p2)) (h3:cP (tP q) r=some (r2,q2)):
  ∃x y,cP (tP q1) r1=some (x,y):=by
 obtain ⟨hp,hq,h1,e1,e1'⟩:=Bw.1 h1
 obtain ⟨_,hr,h2,e2,e2'⟩:=Bw.1 h2
 obtain ⟨_,_,h3,e3,e3'⟩:=Bw.1 h3
 have hp':Ok p.step:=by have:=okt hp;simp only[tP,Kq]at this;exact this
 obtain ⟨x,y,a⟩:=st4 hp' hq hr h1 h2 h3
 have k1:=okc hp hq h1
 have k2:=okc hp hr h2
 exact ⟨_,_,Qt (okt k1.1) k2.1 a⟩
theorem p3b {p q r s t b p1 q2 p2:Patch} (h1:cP q r=some (s,t)) (h2:cP p s=some (b,p1)) (h3:cP p1 t=some (q2,p2)):
  ∃q1 u r1,cP p q=some (q1,u)/\cP u r=some (r1,p2)/\cP q1 r1=some (b,q2):=by
 obtain ⟨x,y,z,a1,a2,a3⟩:=p3 (p2' h1) (p2' h2) (p2' h3)
 have b1:=p2' a1
 have b2:=p2' a2
 have b3:=p2' a3
 simp only[Kd]at b1 b2 b3
 exact ⟨_,_,_,b1,b2,b3⟩
theorem p5 {x p q p1 x1 q1 x2 q' p':Patch} (h1:cP x p=some (p1,x1)) (h2:cP x1 q=some (q1,x2)) (h3:cP p q=some (q',p')):
  ∃q2 p2 y,cP x q'=some (q2,y)/\cP y p'=some (p2,x2)/\cP p1 q1=some (q2,p2):=by
 have a1:=Ps.p1 (Ps.p2 (Ps.p1 h1))
 have hx:cP (tP (tP x1)) (tP p)=some (tP p1,x):=by rw[Kd];exact a1
 have h2':cP (tP (tP x1)) q=some (q1,x2):=by rw[Kd];exact h2
 have h3':cP (tP (tP p)) q=some (q',p'):=by rw[Kd];exact h3
 obtain ⟨u,v,hd⟩:=p4 hx h2' h3'
 rw[Kd]at hd
 obtain ⟨s,t,w,b1,b2,b3⟩:=p3 h1 h2 hd
 rw[h3]at b1
 cases b1
 exact ⟨_,_,_,b2,b3,hd⟩
theorem p6 {p q y y1 q1 y2 p1 q' p':Patch} (h1:cP q y=some (y1,q1)) (h2:cP p y1=some (y2,p1)) (h3:cP p q=some (q',p')):
  ∃z p2 q2,cP p' y=some (z,p2)/\cP q' z=some (y2,q2)/\cP p1 q1=some (q2,p2):=by
 have a1:=p2' h2
 have a2:=Ps.p2 (Ps.p1 h1)
 have h3':cP (tP (tP p)) q=some (q',p'):=by rw[Kd];exact h3
 obtain ⟨u,v,hd⟩:=p4 a1 a2 h3'
 rw[Kd]at hd
 obtain ⟨a,b,d,b1,b2,b3⟩:=p3b h1 h2 hd
 rw[h3]at b1
 cases b1
 exact ⟨_,_,_,b2,b3,hd⟩
end Ps
end
section
namespace Ps
open VapatBase
open Vapatc (Patch Row)
inductive Q:Row->Row->Prop
 |refl (a:Row):Q a a
 |swap {p q q' p':Patch} (r:Row):cP p q=some (q',p')->Q (p::q::r) (q'::p'::r)
 |cons (p:Patch) {a b:Row}:Q a b->Q (p::a) (p::b)
 |trans {a b d:Row}:Q a b->Q b d->Q a d
theorem Q.symm {a b:Row} (h:Q a b):Q b a:=by
 induction h with
 |refl a=>exact .refl a
 |swap r h=>exact .swap r (p1 h)
 |cons p _ ih=>exact .cons p ih
 |trans _ _ ih1 ih2=>exact .trans ih2 ih1
theorem Q.append_right {a b:Row} (h:Q a b) (r:Row):Q (a++r) (b++r):=by
 induction h with
 |refl a=>exact .refl _
 |swap r' h=>exact .swap (r'++r) h
 |cons p _ ih=>exact .cons p ih
 |trans _ _ ih1 ih2=>exact .trans ih1 ih2
theorem Q.append_left {a b:Row} (h:Q a b):∀(l:Row),Q (l++a) (l++b)
 |[]=>h
 |p::l=>.cons p (h.append_left l)
abbrev nms (a:Row):List Nat:=a.map fun p=>p.name
theorem Q.perm {a b:Row} (h:Q a b):(nms a).Perm (nms b):=by
 induction h with
 |refl a=>exact .refl _
 |swap r h=>
  have:=Js h
  simp only[nms,List.map_cons,this.1,this.2]
  exact List.Perm.swap _ _ _
 |cons p _ ih=>exact .cons _ ih
 |trans _ _ ih1 ih2=>exact .trans ih1 ih2
theorem Q.len {a b:Row} (h:Q a b):a.length=b.length:=by
 have:=h.perm.length_eq
 simpa [nms] using this
theorem Q.nil {b:Row} (h:Q [] b):b=[]:=by
 have:=h.len
 exact List.eq_nil_of_length_eq_zero this.symm
theorem Q.single {p:Patch} {b:Row} (h:Q [p] b):b=[p]:=by
 have key:∀{a b:Row},Q a b->a.length=1->a=b:=by
  intro a b h
  induction h with
  |refl a=>intro _;rfl
  |swap r h=>intro e;simp at e
  |cons p h ih=>
   intro e
   simp at e
   subst e
   rw[h.nil]
  |trans h1 _ ih1 ih2=>
   intro e
   have e1:=ih1 e
   subst e1
   exact ih2 e
 exact (key h rfl).symm
def bh:Patch->Row->Option (Row×Patch)
 |x,[]=>some ([],x)
 |x,y::f=>match cP x y with
  |none=>none
  |some (y',x')=>match bh x' f with
   |none=>none
   |some (f',x'')=>some (y'::f',x'')
theorem Av {x y x2:Patch} {f g:Row}:bh x (y::f)=some (g,x2)↔∃y' x' g',cP x y=some (y',x')/\bh x' f=some (g',x2)/\g=y'::g':=by
 simp only[bh]
 constructor
 ·intro h
  split at h
  ·cases h
  next y' x' e=>
   split at h
   ·cases h
   next f' x'' e2=>cases h;exact ⟨_,_,_,e,e2,rfl⟩
 ·rintro ⟨y',x',g',e1,e2,rfl⟩
  rw[e1];simp[e2]
theorem Ee {f:Row}:∀{x y:Patch} {g:Row},bh x f=some (g,y)->Q (x::f) (g++[y])/\nms g=nms f/\y.name=x.name:=by
 induction f with
 |nil=>intro x y g h;simp[bh]at h;obtain ⟨rfl,rfl⟩:=h;exact ⟨.refl _,rfl,rfl⟩
 |cons z f ih=>
  intro x y g h
  obtain ⟨z',x',g',e1,e2,rfl⟩:=Av.1 h
  obtain ⟨k1,k2,k3⟩:=ih e2
  have:=Js e1
  exact ⟨(Q.swap f e1).trans (Q.cons z' k1),by simp[nms,this.1,k2],by rw[k3,this.2]⟩
theorem Lo {f1 f2:Row}:∀{x z:Patch} {g:Row},bh x (f1++f2)=some (g,z)↔∃g1 g2 y,bh x f1=some (g1,y)/\bh y f2=some (g2,z)/\g=g1++g2:=by
 induction f1 with
 |nil=>
  intro x z g
  simp only[List.nil_append,bh,Option.some.injEq,Prod.mk.injEq]
  constructor
  ·intro h;exact ⟨[],g,x,⟨rfl,rfl⟩,h,rfl⟩
  ·rintro ⟨g1,g2,y,⟨rfl,rfl⟩,h,rfl⟩;exact h
 |cons a f1 ih=>
  intro x z g
  simp only[List.cons_append]
  rw[Av]
  constructor
  ·rintro ⟨y',x',g',e1,e2,rfl⟩
   obtain ⟨g1,g2,y,e3,e4,rfl⟩:=ih.1 e2
   exact ⟨y'::g1,g2,y,Av.2 ⟨_,_,_,e1,e3,rfl⟩,e4,rfl⟩
  ·rintro ⟨g1,g2,y,e1,e2,rfl⟩
   obtain ⟨y',x',g',e3,e4,rfl⟩:=Av.1 e1
   exact ⟨y',x',g'++g2,e3,ih.2 ⟨_,_,_,e4,e2,rfl⟩,rfl⟩
theorem Xm {f f':Row} (h:Q f f'):∀{x y:Patch} {g:Row},bh x f=some (g,y)->∃g',bh x f'=some (g',y)/\Q g g':=by
 induction h with
 |refl a=>intro x y g h;exact ⟨g,h,.refl _⟩
 |swap r h=>
  intro x y g k
  obtain ⟨y1,x1,g1,e1,e2,rfl⟩:=Av.1 k
  obtain ⟨y2,x2,g2,e3,e4,rfl⟩:=Av.1 e2
  obtain ⟨a,b,d,k1,k2,k3⟩:=p5 e1 e3 h
  exact ⟨_,Av.2 ⟨_,_,_,k1,Av.2 ⟨_,_,_,k2,e4,rfl⟩,rfl⟩,.swap _ k3⟩
 |cons p _ ih=>
  intro x y g k
  obtain ⟨y1,x1,g1,e1,e2,rfl⟩:=Av.1 k
  obtain ⟨g',e3,e4⟩:=ih e2
  exact ⟨_,Av.2 ⟨_,_,_,e1,e3,rfl⟩,.cons _ e4⟩
 |trans _ _ ih1 ih2=>
  intro x y g k
  obtain ⟨g1,e1,e2⟩:=ih1 k
  obtain ⟨g2,e3,e4⟩:=ih2 e1
  exact ⟨g2,e3,e2.trans e4⟩
theorem Xs {f:Row}:∀{p q p' q' p1 q1:Patch} {f1 f2:Row},cP p q=some (q',p')->bh q f=some (f1,q1)->bh p f1=some (f2,p1)->
  ∃g p2 q2,bh p' f=some (g,p2)/\bh q' g=some (f2,q2)/\cP p1 q1=some (q2,p2):=by
 induction f with
 |nil=>
  intro p q p' q' p1 q1 f1 f2 h h1 h2
  simp[bh]at h1
  obtain ⟨rfl,rfl⟩:=h1
  simp[bh]at h2
  obtain ⟨rfl,rfl⟩:=h2
  exact ⟨[],p',q',rfl,rfl,h⟩
 |cons y f ih=>
  intro p q p' q' p1 q1 f1 f2 h h1 h2
  obtain ⟨y1,x1,g1,e1,e2,rfl⟩:=Av.1 h1
  obtain ⟨y2,x2,g2,e3,e4,rfl⟩:=Av.1 h2
  obtain ⟨z,a,b,k1,k2,k3⟩:=p6 e1 e3 h
  obtain ⟨g,c,d,m1,m2,m3⟩:=ih k3 e2 e4
  exact ⟨z::g,c,d,Av.2 ⟨_,_,_,k1,m1,rfl⟩,Av.2 ⟨_,_,_,k2,m2,rfl⟩,m3⟩
def ex (s:Nat->Bool):Row->Option (Row×Row)
 |[]=>some ([],[])
 |x::l=>match ex s l with
  |none=>none
  |some (f,r)=>if s x.name then some (x::f,r) else match bh x f with
   |none=>none
   |some (f',x')=>some (f',x'::r)
theorem CL {s:Nat->Bool} {x:Patch} {l f r:Row} (h:s x.name=true):ex s (x::l)=some (f,r)↔∃f',ex s l=some (f',r)/\f=x::f':=by
 simp only[ex]
 constructor
 ·intro k
  split at k
  ·cases k
  next f' r' e=>rw[if_pos h]at k;cases k;exact ⟨f',e,rfl⟩
 ·rintro ⟨f',e,rfl⟩
  simp[e,h]
theorem Be {s:Nat->Bool} {x:Patch} {l f r:Row} (h:s x.name=false):ex s (x::l)=some (f,r)↔∃f' r' x',ex s l=some (f',r')/\bh x f'=some (f,x')/\r=x'::r':=by
 simp only[ex]
 constructor
 ·intro k
  split at k
  ·cases k
  next f' r' e=>
   rw[if_neg (by simp[h])]at k
   split at k
   ·cases k
   next g x' e2=>cases k;exact ⟨f',r',x',e,e2,rfl⟩
 ·rintro ⟨f',r',x',e,e2,rfl⟩
  simp[e,h,e2]
theorem C1 {s:Nat->Bool}:∀{a f r:Row},ex s a=some (f,r)->Q a (f++r)/\nms f=(nms a).filter s/\nms r=(nms a).filter (fun n=>!s n):=by
 intro a
 induction a with
 |nil=>intro f r h;simp[ex]at h;obtain ⟨rfl,rfl⟩:=h;exact ⟨.refl _,rfl,rfl⟩
 |cons x l ih=>
  intro f r h
  cases hs:s x.name with
  |true=>
   obtain ⟨f',e,rfl⟩:=(CL hs).1 h
   obtain ⟨k1,k2,k3⟩:=ih e
   exact ⟨.cons x k1,by simp[nms,hs]at k2 ⊢;exact k2,by simp[nms,hs]at k3 ⊢;exact k3⟩
  |false=>
   obtain ⟨f',r',x',e,e2,rfl⟩:=(Be hs).1 h
   obtain ⟨k1,k2,k3⟩:=ih e
   obtain ⟨m1,m2,m3⟩:=Ee e2
   refine ⟨(Q.cons x k1).trans ?_,?_,?_⟩
   ·have:=m1.append_right r'
    simpa using this
   ·rw[m2,k2];simp[nms,hs]
   ·simp[nms,hs,m3]at k3 ⊢;exact k3
theorem EH {s:Nat->Bool} {a b:Row} (h:Q a b):∀{f r:Row},ex s a=some (f,r)->∃f' r',ex s b=some (f',r')/\Q f f'/\Q r r':=by
 induction h with
 |refl a=>intro f r h;exact ⟨f,r,h,.refl _,.refl _⟩
 |trans _ _ ih1 ih2=>
  intro f r h
  obtain ⟨f1,r1,e1,k1,m1⟩:=ih1 h
  obtain ⟨f2,r2,e2,k2,m2⟩:=ih2 e1
  exact ⟨f2,r2,e2,k1.trans k2,m1.trans m2⟩
 |cons x _ ih=>
  intro f r h
  cases hs:s x.name with
  |true=>
   obtain ⟨f',e,rfl⟩:=(CL hs).1 h
   obtain ⟨f1,r1,e1,k1,m1⟩:=ih e
   exact ⟨x::f1,r1,(CL hs).2 ⟨_,e1,rfl⟩,.cons x k1,m1⟩
  |false=>
   obtain ⟨f',r',x',e,e2,rfl⟩:=(Be hs).1 h
   obtain ⟨f1,r1,e1,k1,m1⟩:=ih e
   obtain ⟨g,e3,k2⟩:=Xm k1 e2
   exact ⟨g,x'::r1,(Be hs).2 ⟨_,_,_,e1,e3,rfl⟩,k2,.cons x' m1⟩
 |@swap p q q' p' r0 hc=>
  intro f r h
  obtain ⟨nq,np⟩:=Js hc
  cases hp:s p.name with
  |true=>
   obtain ⟨f',e,rfl⟩:=(CL hp).1 h
   cases hq:s q.name with
   |true=>
    obtain ⟨f2,e2,rfl⟩:=(CL hq).1 e
    exact ⟨q'::p'::f2,r,(CL (by rw[nq];exact hq)).2 ⟨_,(CL (by rw[np];exact hp)).2 ⟨_,e2,rfl⟩,rfl⟩,.swap _ hc,.refl _⟩
   |false=>
    obtain ⟨f2,r2,x2,e2,e3,rfl⟩:=(Be hq).1 e
    exact ⟨p::f',x2::r2,(Be (by rw[nq];exact hq)).2 ⟨_,_,_,(CL (by rw[np];exact hp)).2 ⟨_,e2,rfl⟩,Av.2 ⟨_,_,_,p1 hc,e3,rfl⟩,rfl⟩,.refl _,.refl _⟩
  |false=>
   obtain ⟨f',r',x',e,e2,rfl⟩:=(Be hp).1 h
   cases hq:s q.name with
   |true=>
    obtain ⟨f2,e3,rfl⟩:=(CL hq).1 e
    obtain ⟨y1,x1,g1,e4,e5,rfl⟩:=Av.1 e2
    rw[hc]at e4
    cases e4
    exact ⟨_,_,(CL (by rw[nq];exact hq)).2 ⟨_,(Be (by rw[np];exact hp)).2 ⟨_,_,_,e3,e5,rfl⟩,rfl⟩,.refl _,.refl _⟩
   |false=>
    obtain ⟨f2,r2,x2,e3,e4,rfl⟩:=(Be hq).1 e
    obtain ⟨g,c,d,m1,m2,m3⟩:=Xs hc e4 e2
    exact ⟨_,_,(Be (by rw[nq];exact hq)).2 ⟨_,_,_,(Be (by rw[np];exact hp)).2 ⟨_,_,_,e3,m1,rfl⟩,m2,rfl⟩,.refl _,.swap _ m3⟩
theorem PU {s:Nat->Bool}:∀{r:Row},(∀n∈nms r,s n=false)->ex s r=some ([],r)
 |[],_=>rfl
 |x::r,h=>(Be (h x.name (by simp[nms]))).2 ⟨[],r,x,PU (fun n hn=>h n (by simp[nms]at hn ⊢;exact Or.inr hn)),rfl,rfl⟩
theorem DL {s:Nat->Bool}:∀{f r:Row},(∀n∈nms f,s n=true)->(∀n∈nms r,s n=false)->ex s (f++r)=some (f,r)
 |[],r,_,h=>PU h
 |x::f,r,k,h=>(CL (k x.name (by simp[nms]))).2 ⟨f,DL (fun n hn=>k n (by simp[nms]at hn ⊢;exact Or.inr hn)) h,rfl⟩
theorem Cf {s:Nat->Bool} {b:Row}:∀{a f r:Row},ex s (a++b)=some (f,r)->∃fa ra f2,ex s a=some (fa,ra)/\f=fa++f2
 |[],f,r,_=>⟨[],[],f,rfl,rfl⟩
 |x::a,f,r,h=>by
  cases hs:s x.name with
  |true=>
   obtain ⟨f',e,rfl⟩:=(CL hs).1 h
   obtain ⟨fa,ra,f2,e1,rfl⟩:=Cf e
   exact ⟨x::fa,ra,f2,(CL hs).2 ⟨_,e1,rfl⟩,rfl⟩
  |false=>
   obtain ⟨f',r',x',e,e2,rfl⟩:=(Be hs).1 h
   obtain ⟨fa,ra,f2,e1,rfl⟩:=Cf e
   obtain ⟨g1,g2,y,e3,e4,rfl⟩:=Lo.1 e2
   exact ⟨g1,y::ra,g2,(Be hs).2 ⟨_,_,_,e1,e3,rfl⟩,rfl⟩
end Ps
end
section
namespace Ps
open VapatBase
open Vapatc (Patch Row)
theorem J9 {s:Nat->Bool} {b:Row}:∀{a f r:Row},ex s (a++b)=some (f,r)->∃f' r',ex s b=some (f',r')
 |[],f,r,h=>⟨f,r,h⟩
 |x::a,f,r,h=>by
  cases hs:s x.name with
  |true=>
   obtain ⟨f',e,rfl⟩:=(CL hs).1 h
   exact J9 e
  |false=>
   obtain ⟨f',r',x',e,e2,rfl⟩:=(Be hs).1 h
   exact J9 e
theorem Rl {s s':Nat->Bool}:∀{a:Row},(∀n∈nms a,s n=s' n)->ex s a=ex s' a
 |[],_=>rfl
 |x::a,h=>by
  have e:ex s a=ex s' a:=Rl fun n hn=>h n (by simp[nms]at hn ⊢;exact Or.inr hn)
  have e2:s x.name=s' x.name:=h _ (by simp[nms])
  simp only[ex,e,e2]
theorem RZ {s:Nat->Bool} {b g r:Row} (h:ex s b=some (g,r)):∀{f:Row},(∀n∈nms f,s n=true)->ex s (f++b)=some (f++g,r)
 |[],_=>h
 |x::f,k=>(CL (k x.name (by simp[nms]))).2 ⟨f++g,RZ h (fun n hn=>k n (by simp[nms]at hn ⊢;exact Or.inr hn)),rfl⟩
theorem Hx {s:Nat->Bool} {b:Row} (hb:∀n∈nms b,s n=false):∀{a f r:Row},ex s a=some (f,r)->ex s (a++b)=some (f,r++b)
 |[],f,r,h=>by
  simp[ex]at h
  obtain ⟨rfl,rfl⟩:=h
  exact PU hb
 |x::a,f,r,h=>by
  cases hs:s x.name with
  |true=>
   obtain ⟨f',e,rfl⟩:=(CL hs).1 h
   exact (CL hs).2 ⟨f',Hx hb e,rfl⟩
  |false=>
   obtain ⟨f',r',x',e,e2,rfl⟩:=(Be hs).1 h
   exact (Be hs).2 ⟨f',r'++b,x',Hx hb e,e2,rfl⟩
def mem (l:List Nat) (n:Nat):Bool:=l.contains n
theorem mem_iff {l:List Nat} {n:Nat}:mem l n=true↔n∈l:=by simp[mem]
theorem BW {l:List Nat} {n:Nat}:mem l n=false↔n∉l:=by simp[mem]
theorem AO (a b:Row):nms (a++b)=nms a++nms b:=by simp[nms]
theorem Ac {a b:Row} (h:(nms (a++b)).Nodup):(nms a).Nodup/\(nms b).Nodup/\∀n,n∈nms a->n∉nms b:=by
 rw[AO,List.nodup_append]at h
 exact ⟨h.1,h.2.1,fun n ha hb=>h.2.2 n ha n hb rfl⟩
theorem Q.nodup {a b:Row} (h:Q a b) (k:(nms a).Nodup):(nms b).Nodup:=h.perm.nodup_iff.1 k
theorem Q.mem {a b:Row} (h:Q a b) {n:Nat}:n∈nms a↔n∈nms b:=h.perm.mem_iff
theorem BI {f r:Row} (h:(nms (f++r)).Nodup):ex (mem (nms f)) (f++r)=some (f,r):=
 DL (fun n hn=>mem_iff.2 hn) (fun n hn=>BW.2 fun k=>(Ac h).2.2 n k hn)
theorem NJ {f r f' r':Row} (h:Q (f++r) (f'++r')) (hn:(nms (f++r)).Nodup) (hf:∀n,n∈nms f↔n∈nms f'):Q f f'/\Q r r':=by
 obtain ⟨g,k,e,q1,q2⟩:=EH h (BI hn)
 have hs:ex (mem (nms f)) (f'++r')=some (f',r'):=
  DL (fun n hn=>mem_iff.2 ((hf n).2 hn)) (fun n k=>BW.2 fun k2=>(Ac (h.nodup hn)).2.2 n ((hf n).1 k2) k)
 rw[hs]at e
 cases e
 exact ⟨q1,q2⟩
theorem TH:∀{a b:Row},Q a b->(nms a).Nodup->nms a=nms b->a=b
 |[],b,h,_,_=>h.nil.symm
 |p::a,[],h,_,e=>by simp[nms]at e
 |p::a,q::b,h,hn,e=>by
  have e1:p.name=q.name/\nms a=nms b:=by simpa [nms] using e
  have:=NJ (f:=[p]) (r:=a) (f':=[q]) (r':=b) h hn (by simp[nms,e1.1])
  have e2:=this.1.single
  cases e2
  rw[TH this.2 (by simp[nms]at hn ⊢;exact hn.2) e1.2]
structure World (K:Nat->Prop) (B:Nat->Row):Prop where
 last:∀n,K n->∃D e,B n=D++[e]/\e.name=n
 nodup:∀n,K n->(nms (B n)).Nodup
 closed:∀n,K n->∀m∈nms (B n),K m/\∃s,Q (B n) (B m++s)
 only:∀n,K n->∀d e,Q (B n) (d++[e])->e.name=n
variable {K:Nat->Prop} {B:Nat->Row}
def Con (K:Nat->Prop) (B:Nat->Row) (X:Row):Prop:=(nms X).Nodup/\∀n∈nms X,K n/\∃s,Q X (B n++s)
theorem Con.self (W:World K B) {n:Nat} (h:K n):Con K B (B n):=⟨W.nodup n h,W.closed n h⟩
theorem Con.nil:Con K B []:=⟨by simp[nms],by simp[nms]⟩
theorem Con.Q {X Y:Row} (h:Con K B X) (q:Q X Y):Con K B Y:=⟨q.nodup h.1,fun n hn=>by
 obtain ⟨k,s,e⟩:=h.2 n (q.mem.2 hn)
 exact ⟨k,s,q.symm.trans e⟩⟩
theorem Con.sub {X:Row} (h:Con K B X) {n:Nat} (hn:n∈nms X):∀m∈nms (B n),m∈nms X:=by
 intro m hm
 obtain ⟨k,s,e⟩:=h.2 n hn
 rw[e.mem,AO]
 exact List.mem_append_left _ hm
theorem World.self_mem (W:World K B) {n:Nat} (h:K n):n∈nms (B n):=by
 obtain ⟨D,e,e1,e2⟩:=W.last n h
 rw[e1,AO]
 simp[nms,e2]
theorem World.all_in (W:World K B) {n:Nat} (h:K n) {s:Nat->Bool} {f r:Row} (e:ex s (B n)=some (f,r)) (hs:s n=true):r=[]/\Ps.Q (B n) f/\∀m∈nms (B n),s m=true:=by
 obtain ⟨q,e1,e2⟩:=C1 e
 have hr:r=[]:=by
  rcases List.eq_nil_or_concat r with rfl|⟨r',x,rfl⟩
  ·rfl
  ·exfalso
   rw[List.concat_eq_append,<-List.append_assoc]at q
   have hx:=W.only n h _ _ q
   have:x.name∈nms (r'.concat x):=by simp[nms]
   rw[e2]at this
   simp at this
   rw[hx,hs]at this
   exact absurd this.2 (by simp)
 subst hr
 refine ⟨rfl,by simpa using q,fun m hm=>?_⟩
 rw[Ps.Q.mem (by simpa using q:Ps.Q (B n) f),e1]at hm
 exact (List.mem_filter.1 hm).2
theorem Con.prefix (W:World K B) {X Y:Row} (h:Con K B (X++Y)):Con K B X:=by
 refine ⟨(Ac h.1).1,fun n hn=>?_⟩
 obtain ⟨k,s,q⟩:=h.2 n (by rw[AO];exact List.mem_append_left _ hn)
 refine ⟨k,?_⟩
 obtain ⟨f,r,e,-,-⟩:=EH q (BI h.1)
 obtain ⟨fa,ra,f2,e1,-⟩:=Cf e
 have sub:=(W.all_in k e1 (mem_iff.2 hn)).2.2
 have hnd:=q.nodup h.1
 obtain ⟨f',r',e2,q1,q2⟩:=EH q.symm (BI hnd)
 obtain ⟨fa',ra',f2',e3,e4⟩:=Cf e2
 have a1:=(C1 e2).2.1
 have a2:=(C1 e3).2.1
 have hY:(nms Y).filter (mem (nms (B n)))=[]:=by
  rw[List.filter_eq_nil_iff]
  intro m hm hm2
  exact (Ac h.1).2.2 m (mem_iff.1 (sub m (mem_iff.1 hm2))) hm
 rw[AO,List.filter_append,hY,List.append_nil,<-a2,e4,AO]at a1
 have:f2'=[]:=by
  have:=congrArg List.length a1
  simp[nms]at this
  exact this
 subst this
 rw[List.append_nil]at e4
 subst e4
 exact ⟨ra',(C1 e3).1.trans (q1.symm.append_right ra')⟩
theorem Con.front (W:World K B) {s:Nat->Bool}:∀(k:Nat) {Y:Row},Y.length=k->Con K B Y->(∀n∈nms Y,s n=true->∀m∈nms (B n),s m=true)->∃f r,ex s Y=some (f,r):=by
 intro k
 induction k with
 |zero=>intro Y hY _ _;rw[List.eq_nil_of_length_eq_zero hY];exact ⟨[],[],rfl⟩
 |succ k ih=>
  intro Y hY hc hs
  rcases List.eq_nil_or_concat Y with rfl|⟨Y',x,rfl⟩
  ·exact ⟨[],[],rfl⟩
  ·rw[List.concat_eq_append]at*
   have hl:Y'.length=k:=by simpa using hY
   have hc':=hc.prefix W
   obtain ⟨f,r,e⟩:=ih hl hc' (fun n hn=>hs n (by rw[AO];exact List.mem_append_left _ hn))
   obtain ⟨q,e1,e2⟩:=C1 e
   have hxm:x.name∈nms (Y'++[x]):=by simp[nms]
   cases hx:s x.name with
   |false=>exact ⟨f,r++[x],Hx (by simpa [nms] using hx) e⟩
   |true=>
    obtain ⟨kx,s0,q0⟩:=hc.2 x.name hxm
    have hq:Ps.Q (B x.name++s0) (f++(r++[x])):=by
     have:=q.append_right [x]
     rw[List.append_assoc]at this
     exact q0.symm.trans this
    obtain ⟨f1,r1,e3,-,-⟩:=EH hq (BI (q0.nodup hc.1))
    obtain ⟨f2,r2,e4⟩:=J9 e3
    have hcong:∀n∈nms (r++[x]),s n=mem (nms (B x.name)) n:=by
     intro n hn
     rw[AO]at hn
     rcases List.mem_append.1 hn with hn|hn
     ·rw[e2]at hn
      have h1:=(List.mem_filter.1 hn).2
      simp at h1
      rw[h1]
      symm
      rw[BW]
      intro h2
      rw[hs x.name hxm hx n h2]at h1
      exact absurd h1 (by simp)
     ·simp[nms]at hn
      subst hn
      rw[hx]
      symm
      exact mem_iff.2 (W.self_mem kx)
    rw[<-Rl hcong]at e4
    have e5:=RZ e4 (f:=f) (by
     intro n hn
     rw[e1]at hn
     exact (List.mem_filter.1 hn).2)
    have hq2:Ps.Q (f++(r++[x])) (Y'++[x]):=by
     have:=q.append_right [x]
     rw[List.append_assoc]at this
     exact this.symm
    obtain ⟨f3,r3,e6,-,-⟩:=EH hq2 e5
    exact ⟨f3,r3,e6⟩
theorem Lk {n:Nat}:∀{ra:Row} {p:Patch} {f r:Row},(∀m∈nms ra,m≠n)->p.name=n->ex (·==n) (ra++[p])=some (f,r)->∃e,f=[e]
 |[],p,f,r,_,hp,h=>by
  rw[List.nil_append,CL (by simp[hp])]at h
  obtain ⟨f',e,rfl⟩:=h
  simp[ex]at e
  exact ⟨p,by rw[e.1]⟩
 |x::ra,p,f,r,hm,hp,h=>by
  rw[List.cons_append,Be (by simpa using hm x.name (by simp[nms]))]at h
  obtain ⟨f',r',x',e,e2,rfl⟩:=h
  obtain ⟨y,rfl⟩:=Lk (fun m k=>hm m (by simp[nms]at k ⊢;exact Or.inr k)) hp e
  obtain ⟨y',x1,g',-,e4,rfl⟩:=Av.1 e2
  simp[bh]at e4
  exact ⟨y',by rw[e4.1]⟩
theorem OR {n:Nat}:∀{ra:Row} {p q e:Patch} {r1 r2:Row},(∀m∈nms ra,m≠n)->p.name=n->q.name=n->
  ex (·==n) (ra++[p])=some ([e],r1)->ex (·==n) (ra++[q])=some ([e],r2)->p=q
 |[],p,q,e,r1,r2,_,hp,hq,h1,h2=>by
  rw[List.nil_append,CL (by simp[hp])]at h1
  rw[List.nil_append,CL (by simp[hq])]at h2
  obtain ⟨f1,e1,e1'⟩:=h1
  obtain ⟨f2,e2,e2'⟩:=h2
  cases e1'
  cases e2'
  rfl
 |x::ra,p,q,e,r1,r2,hm,hp,hq,h1,h2=>by
  have hm':∀m∈nms ra,m≠n:=fun m k=>hm m (by simp[nms]at k ⊢;exact Or.inr k)
  rw[List.cons_append,Be (by simpa using hm x.name (by simp[nms]))]at h1 h2
  obtain ⟨f1,r1',x1,e1,e1',rfl⟩:=h1
  obtain ⟨f2,r2',x2,e2,e2',rfl⟩:=h2
  obtain ⟨a,rfl⟩:=Lk hm' hp e1
  obtain ⟨b,rfl⟩:=Lk hm' hq e2
  obtain ⟨y1,z1,g1,k1,k2,k3⟩:=Av.1 e1'
  obtain ⟨y2,z2,g2,l1,l2,l3⟩:=Av.1 e2'
  cases k3
  cases l3
  have m1:=p2 k1
  have m2:=p2 l1
  rw[m1]at m2
  simp only[Option.some.injEq,Prod.mk.injEq]at m2
  obtain ⟨rfl,-⟩:=m2
  exact OR hm' hp hq e1 e2
theorem Con.uniq (W:World K B):∀(k:Nat) {X Y:Row},X.length=k->Con K B X->Con K B Y->(∀n,n∈nms X↔n∈nms Y)->Ps.Q X Y:=by
 intro k
 induction k with
 |zero=>
  intro X Y hX _ _ hm
  have:=List.eq_nil_of_length_eq_zero hX
  subst this
  have:Y=[]:=by
   cases Y with
   |nil=>rfl
   |cons y Y=>exact absurd ((hm y.name).2 (by simp[nms])) (by simp[nms])
  subst this
  exact .refl _
 |succ k ih=>
  intro X Y hX hcX hcY hm
  rcases List.eq_nil_or_concat X with rfl|⟨X',p,rfl⟩
  ·simp at hX
  ·rw[List.concat_eq_append]at*
   have hl:X'.length=k:=by simpa using hX
   have hcX':=hcX.prefix W
   have hpn:p.name∉nms X':=fun h=>(Ac hcX.1).2.2 _ h (by simp[nms])
   obtain ⟨f,r,e⟩:=Con.front W (s:=mem (nms X')) _ rfl hcY (fun n _ hs m hm2=>mem_iff.2 (hcX'.sub (mem_iff.1 hs) m hm2))
   obtain ⟨q,e1,e2⟩:=C1 e
   have hf:∀n,n∈nms f↔n∈nms X':=by
    intro n
    rw[e1,List.mem_filter,mem_iff]
    constructor
    ·exact fun h=>h.2
    ·intro h;exact ⟨(hm n).1 (by rw[AO];exact List.mem_append_left _ h),h⟩
   have hcf:Con K B (f++r):=hcY.Q q
   have hcf':=hcf.prefix W
   have q1:=ih hl hcX' hcf' (fun n=>(hf n).symm)
   have hr:∀n,n∈nms r↔n=p.name:=by
    intro n
    rw[e2,List.mem_filter,<-hm n,AO]
    simp[mem]
    constructor
    ·rintro ⟨h1|h1,h2⟩
     ·obtain ⟨a,ha,rfl⟩:=h1
      exact absurd rfl (h2 a ha)
     ·exact h1
    ·rintro rfl
     exact ⟨Or.inr rfl,fun x hx hx2=>hpn (by simp[nms];exact ⟨x,hx,hx2⟩)⟩
   have hrn:(nms r).Nodup:=(Ac hcf.1).2.1
   have hr1:∃y,r=[y]/\y.name=p.name:=by
    cases r with
    |nil=>exact absurd ((hr p.name).2 rfl) (by simp[nms])
    |cons y r=>
     have hy:y.name=p.name:=(hr y.name).1 (by simp[nms])
     cases r with
     |nil=>exact ⟨y,rfl,hy⟩
     |cons z r=>
      have hz:z.name=p.name:=(hr z.name).1 (by simp[nms])
      simp[nms,hy,hz]at hrn
   obtain ⟨y,rfl,hy⟩:=hr1
   have hcXf:Con K B (f++[p]):=hcX.Q (q1.append_right [p])
   obtain ⟨kn,s1,qa⟩:=hcXf.2 p.name (by simp[nms])
   obtain ⟨-,s2,qb⟩:=hcf.2 p.name (by simp[nms,hy])
   obtain ⟨D,e0,eB,en⟩:=W.last _ kn
   rw[eB,List.append_assoc]at qa qb
   have hD:∀n∈nms D,n≠p.name:=by
    intro n hn h2
    have:=W.nodup _ kn
    rw[eB]at this
    exact (Ac this).2.2 n hn (by simp[nms,en,h2])
   have hDp:mem (nms D) p.name=false:=BW.2 fun h=>hD _ h rfl
   obtain ⟨fa,ra,ea,qa1,qa2⟩:=EH qa.symm (BI (qa.nodup hcXf.1))
   obtain ⟨fb,rb,eb,qb1,qb2⟩:=EH qb.symm (BI (qb.nodup hcf.1))
   obtain ⟨f0,r0,f3,e5,-⟩:=Cf ea
   have ea':=Hx (b:=[p]) (by simpa [nms] using hDp) e5
   have eb':=Hx (b:=[y]) (by simpa [nms,hy] using hDp) e5
   rw[ea']at ea
   rw[eb']at eb
   cases ea
   cases eb
   have hr0:∀m∈nms r0,m≠p.name:=by
    intro m hm1 hm2
    subst hm2
    rw[(C1 e5).2.2]at hm1
    exact hpn ((hf _).1 (List.mem_filter.1 hm1).1)
   have t1:ex (·==p.name) (e0::s1)=some ([e0],s1):=by
    have:=DL (s:=(·==p.name)) (f:=[e0]) (r:=s1) (by simp[nms,en]) (by
     intro n hn
     have hnd:=(Ac (qa.nodup hcXf.1)).2.1
     simp[nms]at hnd hn ⊢
     rintro rfl
     obtain ⟨a,ha,hb⟩:=hn
     exact hnd.1 a ha (by rw[hb,en]))
    simpa using this
   have t2:ex (·==p.name) (e0::s2)=some ([e0],s2):=by
    have:=DL (s:=(·==p.name)) (f:=[e0]) (r:=s2) (by simp[nms,en]) (by
     intro n hn
     have hnd:=(Ac (qb.nodup hcf.1)).2.1
     simp[nms]at hnd hn ⊢
     rintro rfl
     obtain ⟨a,ha,hb⟩:=hn
     exact hnd.1 a ha (by rw[hb,en]))
    simpa using this
   obtain ⟨g1,r1,u1,v1,-⟩:=EH qa2 t1
   obtain ⟨g2,r2,u2,v2,-⟩:=EH qb2 t2
   rw[v1.single]at u1
   rw[v2.single]at u2
   have hpy:=OR hr0 rfl hy u1 u2
   subst hpy
   exact (q1.append_right [p]).trans q.symm
end Ps
end
section
namespace Ps
open VapatBase
open Vapatc (Patch Row)
variable {K:Nat->Prop} {B:Nat->Row}
def Ub (X Y:Row):Prop:=∃s s',Q (X++s) (Y++s')/\(nms (X++s)).Nodup/\(∀k∈nms s,k∈nms Y)/\(∀k∈nms s',k∈nms X)
theorem Ub.symm {X Y:Row} (h:Ub X Y):Ub Y X:=by
 obtain ⟨s,s',q,n,h1,h2⟩:=h
 exact ⟨s',s,q.symm,q.nodup n,h2,h1⟩
theorem Con.ub {X Y s s':Row} (hX:Con K B X) (hY:Con K B Y) (q:Ps.Q (X++s) (Y++s')) (hn:(nms (X++s)).Nodup) (h1:∀k∈nms s,k∈nms Y):Con K B (X++s):=by
 refine ⟨hn,fun n hm=>?_⟩
 rw[AO]at hm
 have inY:n∈nms Y->K n/\∃t,Ps.Q (X++s) (B n++t):=by
  intro hm
  obtain ⟨k,t,q2⟩:=hY.2 n hm
  refine ⟨k,t++s',q.trans ?_⟩
  rw[<-List.append_assoc]
  exact q2.append_right s'
 rcases List.mem_append.1 hm with hm|hm
 ·obtain ⟨k,t,q2⟩:=hX.2 n hm
  refine ⟨k,t++s,?_⟩
  rw[<-List.append_assoc]
  exact q2.append_right s
 ·exact inY (h1 n hm)
theorem Gb (X:Row) (p:Patch):nms (X++[p])=nms X++[p.name]:=by simp[nms]
theorem Cb {X:Row} {p:Patch} {n:Nat}:n∈nms (X++[p])↔n∈nms X\/n=p.name:=by simp[nms]
theorem Con.part (W:World K B) {Y:Row} {s:Nat->Bool} (h:Con K B Y) (hs:∀n∈nms Y,s n=true->∀m∈nms (B n),s m=true):
  ∃f r,Ps.Q Y (f++r)/\Con K B f/\(∀n,n∈nms f↔n∈nms Y/\s n=true)/\(∀n,n∈nms r↔n∈nms Y/\s n=false)/\ex s Y=some (f,r):=by
 obtain ⟨f,r,e⟩:=Con.front W _ rfl h hs
 obtain ⟨q,e1,e2⟩:=C1 e
 refine ⟨f,r,q,(h.Q q).prefix W,fun n=>?_,fun n=>?_,e⟩
 ·rw[e1,List.mem_filter]
 ·rw[e2,List.mem_filter];simp
theorem Con.swap (W:World K B) {P:Row} {v w:Patch} (h:Con K B (P++[v,w])) (hv:v.name∉nms (B w.name)):
  ∃w' v',cP v w=some (w',v')/\w'.name=w.name/\Con K B (P++[w',v'])/\Con K B (P++[w']):=by
 have e1:P++[v,w]=(P++[v])++[w]:=by simp
 have hP:Con K B P:=Con.prefix W (Y:=[v,w]) h
 have hvP:v.name∉nms P:=fun k=>(Ac h.1).2.2 _ k (by simp[nms])
 obtain ⟨f,r,e⟩:=Con.front W (s:=mem (nms P++[w.name])) _ rfl h (by
  intro n hn hs m hm
  rw[mem_iff]at hs ⊢
  rcases List.mem_append.1 hs with k|k
  ·exact List.mem_append_left _ (hP.sub k m hm)
  ·simp at k
   subst k
   have:=h.sub hn m hm
   simp only[nms,List.map_append,List.map_cons,List.map_nil,List.mem_append,List.mem_cons,List.not_mem_nil,or_false]at this ⊢
   rcases this with a|a|a
   ·exact Or.inl a
   ·subst a;exact absurd hm hv
   ·exact Or.inr a)
 obtain ⟨f',r',e2⟩:=J9 e
 have hv2:mem (nms P++[w.name]) v.name=false:=by
  rw[BW]
  intro k
  rcases List.mem_append.1 k with k|k
  ·exact hvP k
  ·simp at k
   have:=h.1
   simp[nms,List.nodup_append]at this
   exact this.2.1 k
 obtain ⟨f1,r1,x1,e3,e4,-⟩:=(Be hv2).1 e2
 obtain ⟨f2,e5,rfl⟩:=(CL (mem_iff.2 (by simp))).1 e3
 simp[ex]at e5
 obtain ⟨rfl,rfl⟩:=e5
 obtain ⟨w',v',g,e6,-,-⟩:=Av.1 e4
 have hc:Con K B (P++[w',v']):=h.Q ((Q.swap [] e6).append_left P)
 refine ⟨w',v',e6,(Js e6).1,hc,?_⟩
 have:P++[w',v']=(P++[w'])++[v']:=by simp
 rw[this]at hc
 exact hc.prefix W
theorem Bx {r:Row} (h:r≠[]):∃r' v,r=r'++[v]:=by
 rcases List.eq_nil_or_concat r with rfl|⟨r',v,rfl⟩
 ·exact absurd rfl h
 ·exact ⟨r',v,by rw[List.concat_eq_append]⟩
theorem Con.merge_base (W:World K B) {P s s':Row} {w p:Patch} (hw:Con K B (P++[w])) (hp:Con K B (P++[p])) (hne:w.name≠p.name)
  (q:Ps.Q (B w.name++s) (B p.name++s')) (hn:(nms (B w.name++s)).Nodup) (h1:∀k∈nms s,k∈nms (B p.name)) (h2:∀k∈nms s',k∈nms (B w.name))
  (hall:∀n∈nms P,n∈nms (B w.name)\/n∈nms (B p.name)):∃x y,cP (tP w) p=some (x,y):=by
 have kw:K w.name:=(hw.2 w.name (by simp[nms])).1
 have kp:K p.name:=(hp.2 p.name (by simp[nms])).1
 have hP:Con K B P:=hw.prefix W
 have hwP:w.name∉nms P:=fun h=>(Ac hw.1).2.2 _ h (by simp[nms])
 have hpP:p.name∉nms P:=fun h=>(Ac hp.1).2.2 _ h (by simp[nms])
 have hJ:Con K B (B w.name++s):=Con.ub (Con.self W kw) (Con.self W kp) q hn h1
 have hJm:∀n,n∈nms (B w.name++s)↔n∈nms (B w.name)\/n∈nms (B p.name):=by
  intro n
  constructor
  ·intro h
   rw[AO]at h
   rcases List.mem_append.1 h with h|h
   ·exact Or.inl h
   ·exact Or.inr (h1 n h)
  ·rintro (h|h)
   ·rw[AO];exact List.mem_append_left _ h
   ·rw[q.mem,AO];exact List.mem_append_left _ h
 have bw:∀n∈nms (B w.name),n∈nms P\/n=w.name:=fun n h=>Cb.1 (hw.sub (by simp[nms]) n h)
 have bp:∀n∈nms (B p.name),n∈nms P\/n=p.name:=fun n h=>Cb.1 (hp.sub (by simp[nms]) n h)
 obtain ⟨f,r,q1,hf,hfm,hrm,-⟩:=Con.part W (s:=mem (nms (P++[w]))) hJ (by
  intro n _ hs m hm
  exact mem_iff.2 (hw.sub (mem_iff.1 hs) m hm))
 have qf:Ps.Q f (P++[w]):=Con.uniq W _ rfl hf hw (by
  intro n
  rw[hfm n,mem_iff,hJm]
  constructor
  ·exact fun h=>h.2
  ·intro h
   refine ⟨?_,h⟩
   rcases Cb.1 h with h|h
   ·exact hall n h
   ·subst h;exact Or.inl (W.self_mem kw))
 have hr:∀n,n∈nms r↔n=p.name:=by
  intro n
  rw[hrm n,BW,hJm,Cb]
  constructor
  ·rintro ⟨h,h3⟩
   rcases h with h|h
   ·exact absurd (bw n h) h3
   ·rcases bp n h with h|h
    ·exact absurd (Or.inl h) h3
    ·exact h
  ·rintro rfl
   refine ⟨Or.inr (W.self_mem kp),?_⟩
   rintro (h|h)
   ·exact hpP h
   ·exact hne h.symm
 have hcf:Con K B (f++r):=hJ.Q q1
 have hrn:(nms r).Nodup:=(Ac hcf.1).2.1
 have hr1:∃y,r=[y]/\y.name=p.name:=by
  cases r with
  |nil=>exact absurd ((hr p.name).2 rfl) (by simp[nms])
  |cons y r=>
   have hy:y.name=p.name:=(hr y.name).1 (by simp[nms])
   cases r with
   |nil=>exact ⟨y,rfl,hy⟩
   |cons z r=>
    have hz:z.name=p.name:=(hr z.name).1 (by simp[nms])
    simp[nms,hy,hz]at hrn
 obtain ⟨y,rfl,hy⟩:=hr1
 have hc2:Con K B (P++[w,y]):=by
  have:=hcf.Q (qf.append_right [y])
  simpa using this
 obtain ⟨y',w',e1,n1,c1,c2⟩:=Con.swap W hc2 (by
  rw[hy]
  intro h
  rcases bp _ h with h|h
  ·exact hwP h
  ·exact hne h)
 have q3:Ps.Q (P++[y']) (P++[p]):=Con.uniq W _ rfl c2 hp (by intro n;rw[Cb,Cb,n1,hy])
 have:=(NJ q3 c2.1 (fun n=>Iff.rfl)).2.single
 cases this
 exact ⟨_,_,Ps.p2 e1⟩
theorem Con.merge (W:World K B):∀(k:Nat) {P:Row} {w p:Patch},P.length=k->Con K B (P++[w])->Con K B (P++[p])->w.name≠p.name->Ub (B w.name) (B p.name)->
  ∃x y,cP (tP w) p=some (x,y):=by
 intro k
 induction k with
 |zero=>
  intro P w p hk hw hp hne hub
  have:=List.eq_nil_of_length_eq_zero hk
  subst this
  obtain ⟨s,s',q,hn,h1,h2⟩:=hub
  exact Con.merge_base W hw hp hne q hn h1 h2 (by simp[nms])
 |succ k ih=>
  intro P w p hk hw hp hne hub
  have kw:K w.name:=(hw.2 w.name (by simp[nms])).1
  have kp:K p.name:=(hp.2 p.name (by simp[nms])).1
  have hP:Con K B P:=hw.prefix W
  by_cases hall:∀n∈nms P,n∈nms (B w.name)\/n∈nms (B p.name)
  ·obtain ⟨s,s',q,hn,h1,h2⟩:=hub
   exact Con.merge_base W hw hp hne q hn h1 h2 hall
  ·have hwP:w.name∉nms P:=fun h=>(Ac hw.1).2.2 _ h (by simp[nms])
   have hpP:p.name∉nms P:=fun h=>(Ac hp.1).2.2 _ h (by simp[nms])
   obtain ⟨f,r,q,hf,hfm,hrm,-⟩:=Con.part W (s:=mem (nms (B w.name)++nms (B p.name))) hP (by
    intro n hn hs m hm
    rw[mem_iff]at hs ⊢
    rcases List.mem_append.1 hs with h|h
    ·exact List.mem_append_left _ ((Con.self W kw).sub h m hm)
    ·exact List.mem_append_right _ ((Con.self W kp).sub h m hm))
   have hr:r≠[]:=by
    rintro rfl
    apply hall
    intro n hn
    cases hc:mem (nms (B w.name)++nms (B p.name)) n with
    |true=>simpa using mem_iff.1 hc
    |false=>exact absurd ((hrm n).2 ⟨hn,hc⟩) (by simp[nms])
   obtain ⟨r',v,rfl⟩:=Bx hr
   rw[<-List.append_assoc]at q
   have hv:=((hrm v.name).1 (by simp[nms])).2
   rw[BW]at hv
   simp at hv
   have hlen:(f++r').length=k:=by
    have:=q.len
    rw[hk]at this
    simp at this ⊢
    omega
   have hw':Con K B ((f++r')++[v,w]):=by
    have:=hw.Q (q.append_right [w])
    simpa using this
   have hp':Con K B ((f++r')++[v,p]):=by
    have:=hp.Q (q.append_right [p])
    simpa using this
   obtain ⟨w1,v1,e1,n1,-,c1⟩:=Con.swap W hw' (by simpa [nms] using hv.1)
   obtain ⟨p1,v2,e2,n2,-,c2⟩:=Con.swap W hp' (by simpa [nms] using hv.2)
   obtain ⟨x,y,e3⟩:=ih hlen c1 c2 (by rw[n1,n2];exact hne) (by rw[n1,n2];exact hub)
   exact p4 (Ps.p2 e1) (Ps.p2 e2) e3
end Ps
end
section
namespace Ps
open VapatBase
open Vapatc (Patch Row)
variable {K:Nat->Prop} {B:Nat->Row}
theorem Con.ub_in (W:World K B) {Y:Row} (h:Con K B Y) {n m:Nat} (hn:n∈nms Y) (hm:m∈nms Y):Ub (B n) (B m):=by
 have kn:=(h.2 n hn).1
 have km:=(h.2 m hm).1
 obtain ⟨f,r,q,hf,hfm,-,-⟩:=Con.part W (s:=mem (nms (B n)++nms (B m))) h (by
  intro x _ hs y hy
  rw[mem_iff]at hs ⊢
  rcases List.mem_append.1 hs with k|k
  ·exact List.mem_append_left _ ((Con.self W kn).sub k y hy)
  ·exact List.mem_append_right _ ((Con.self W km).sub k y hy))
 have fm:∀x,x∈nms f↔x∈nms (B n)\/x∈nms (B m):=by
  intro x
  rw[hfm x,mem_iff,List.mem_append]
  constructor
  ·exact fun k=>k.2
  ·rintro (k|k)
   ·exact ⟨h.sub hn x k,Or.inl k⟩
   ·exact ⟨h.sub hm x k,Or.inr k⟩
 obtain ⟨-,s,q1⟩:=hf.2 n ((fm n).2 (Or.inl (W.self_mem kn)))
 obtain ⟨-,s',q2⟩:=hf.2 m ((fm m).2 (Or.inr (W.self_mem km)))
 refine ⟨s,s',q1.symm.trans q2,q1.nodup hf.1,fun k hk=>?_,fun k hk=>?_⟩
 ·have h1:k∈nms f:=by rw[q1.mem,AO];exact List.mem_append_right _ hk
  rcases (fm k).1 h1 with h2|h2
  ·exact absurd hk ((Ac (q1.nodup hf.1)).2.2 k h2)
  ·exact h2
 ·have h1:k∈nms f:=by rw[q2.mem,AO];exact List.mem_append_right _ hk
  rcases (fm k).1 h1 with h2|h2
  ·exact h2
  ·exact absurd hk ((Ac (q2.nodup hf.1)).2.2 k h2)
theorem Con.extend (W:World K B):∀(k:Nat) {X:Row} {m:Nat},X.length=k->Con K B X->K m->m∉nms X->(∀t∈nms (B m),t≠m->t∈nms X)->(∀t∈nms X,Ub (B t) (B m))->
  ∃p,p.name=m/\Con K B (X++[p]):=by
 intro k
 induction k with
 |zero=>
  intro X m hk hX km hm hD _
  have:=List.eq_nil_of_length_eq_zero hk
  subst this
  obtain ⟨D,e,eB,en⟩:=W.last m km
  have hDn:D=[]:=by
   cases D with
   |nil=>rfl
   |cons d D=>
    have hd:d.name∈nms (B m):=by rw[eB];simp[nms]
    have hne:d.name≠m:=by
     intro h
     have:=W.nodup m km
     rw[eB]at this
     exact (Ac this).2.2 d.name (by simp[nms]) (by simp[nms,en,h])
    exact absurd (hD _ hd hne) (by simp[nms])
  subst hDn
  refine ⟨e,en,?_⟩
  have:=Con.self W km
  rw[eB]at this
  simpa using this
 |succ k ih=>
  intro X m hk hX km hm hD hub
  obtain ⟨D,e,eB,en⟩:=W.last m km
  have hDm:∀n,n∈nms D↔n∈nms (B m)/\n≠m:=by
   intro n
   rw[eB,Gb,en]
   have hnd:=W.nodup m km
   rw[eB]at hnd
   constructor
   ·intro h
    exact ⟨List.mem_append_left _ h,fun h2=>(Ac hnd).2.2 n h (by simp[nms,en,h2])⟩
   ·rintro ⟨h,h2⟩
    rcases List.mem_append.1 h with h|h
    ·exact h
    ·simp at h;exact absurd h h2
  have hself:=Con.self W km
  have hcD:Con K B D:=by rw[eB]at hself;exact hself.prefix W
  by_cases hall:∀n∈nms X,n∈nms D
  ·have q:Ps.Q X D:=Con.uniq W _ rfl hX hcD (fun n=>⟨hall n,fun h=>by
    obtain ⟨h1,h2⟩:=(hDm n).1 h
    exact hD n h1 h2⟩)
   refine ⟨e,en,?_⟩
   rw[eB]at hself
   exact hself.Q (q.symm.append_right [e])
  ·obtain ⟨f,r,q,hf,hfm,hrm,-⟩:=Con.part W (s:=mem (nms D)) hX (by
    intro n _ hs x hx
    exact mem_iff.2 (hcD.sub (mem_iff.1 hs) x hx))
   have hr:r≠[]:=by
    rintro rfl
    apply hall
    intro n hn
    cases hc:mem (nms D) n with
    |true=>exact mem_iff.1 hc
    |false=>exact absurd ((hrm n).2 ⟨hn,hc⟩) (by simp[nms])
   obtain ⟨r',w,rfl⟩:=Bx hr
   rw[<-List.append_assoc]at q
   have hlen:(f++r').length=k:=by
    have:=q.len
    rw[hk]at this
    simp at this ⊢
    omega
   have hXw:Con K B ((f++r')++[w]):=hX.Q q
   have hw:=(hrm w.name).1 (by simp[nms])
   have hP:=hXw.prefix W
   have hmP:m∉nms (f++r'):=fun h=>hm (q.mem.2 (by rw[AO];exact List.mem_append_left _ h))
   have hwm:w.name≠m:=fun h=>hm (h▸hw.1)
   obtain ⟨p,pn,hp⟩:=ih hlen hP km hmP (by
    intro t ht htm
    have:t∈nms f:=(hfm t).2 ⟨hD t ht htm,mem_iff.2 ((hDm t).2 ⟨ht,htm⟩)⟩
    rw[AO]
    exact List.mem_append_left _ this) (fun t ht=>hub t (q.mem.2 (by rw[AO];exact List.mem_append_left _ ht)))
   obtain ⟨x,y,e1⟩:=Con.merge W _ rfl hXw hp (by rw[pn];exact hwm) (by rw[pn];exact hub _ hw.1)
   have e2:=Ps.p2 e1
   rw[Kd]at e2
   have xn:x.name=m:=by rw[(Js e1).1,pn]
   have q2:Ps.Q ((f++r')++[w,x]) ((f++r')++[p,tP y]):=(Q.swap [] e2).append_left _
   have hc:Con K B ((f++r')++[w]++[x]):=by
    refine ⟨?_,fun n hn=>?_⟩
    ·rw[Gb,List.nodup_append]
     refine ⟨hXw.1,by simp,?_⟩
     rintro a ha b hb rfl
     simp at hb
     subst hb
     rw[xn]at ha
     exact hm (q.mem.2 ha)
    ·rcases Cb.1 hn with h|h
     ·obtain ⟨a,b,d⟩:=hXw.2 n h
      exact ⟨a,b++[x],by rw[<-List.append_assoc];exact d.append_right [x]⟩
     ·subst h
      obtain ⟨a,b,d⟩:=hp.2 p.name (by simp[nms])
      rw[pn]at a d
      rw[xn]
      refine ⟨a,b++[tP y],?_⟩
      have:=d.append_right [tP y]
      have q3:Ps.Q ((f++r')++[w]++[x]) ((f++r')++[p]++[tP y]):=by simpa using q2
      rw[<-List.append_assoc]
      exact q3.trans this
   exact ⟨x,xn,hc.Q (q.symm.append_right [x])⟩
theorem Con.join (W:World K B) {X:Row} (hX:Con K B X):∀(k:Nat) {Y:Row},Y.length=k->Con K B Y->(∀t∈nms X,∀u∈nms Y,Ub (B t) (B u))->
  ∃s,Con K B (X++s)/\(∀n∈nms s,n∈nms Y)/\∀n∈nms Y,n∈nms (X++s):=by
 intro k
 induction k with
 |zero=>
  intro Y hk _ _
  have:=List.eq_nil_of_length_eq_zero hk
  subst this
  exact ⟨[],by simpa using hX,by simp[nms],by simp[nms]⟩
 |succ k ih=>
  intro Y hk hY hub
  obtain ⟨Y',m,rfl⟩:=Bx (r:=Y) (by rintro rfl;simp at hk)
  have hl:Y'.length=k:=by simpa using hk
  obtain ⟨s,hs,h1,h2⟩:=ih hl (hY.prefix W) (fun t ht u hu=>hub t ht u (by rw[AO];exact List.mem_append_left _ hu))
  by_cases hm:m.name∈nms (X++s)
  ·refine ⟨s,hs,fun n hn=>by rw[AO];exact List.mem_append_left _ (h1 n hn),fun n hn=>?_⟩
   rcases Cb.1 hn with h|h
   ·exact h2 n h
   ·subst h;exact hm
  ·have km:=(hY.2 m.name (by simp[nms])).1
   obtain ⟨p,pn,hp⟩:=Con.extend W _ rfl hs km hm (by
    intro t ht htm
    rcases Cb.1 (hY.sub (by simp[nms]) t ht) with h|h
    ·exact h2 t h
    ·exact absurd h htm) (by
    intro t ht
    rw[AO]at ht
    rcases List.mem_append.1 ht with h|h
    ·exact hub t h _ (by simp[nms])
    ·exact Con.ub_in W hY (by rw[AO];exact List.mem_append_left _ (h1 t h)) (by simp[nms]))
   refine ⟨s++[p],by rw[<-List.append_assoc];exact hp,fun n hn=>?_,fun n hn=>?_⟩
   ·rcases Cb.1 hn with h|h
    ·rw[AO];exact List.mem_append_left _ (h1 n h)
    ·subst h;rw[pn];simp[nms]
   ·rw[<-List.append_assoc,AO]
    rcases Cb.1 hn with h|h
    ·exact List.mem_append_left _ (h2 n h)
    ·subst h;exact List.mem_append_right _ (by simp[nms,pn])
theorem Con.ub_of (W:World K B) {X Y:Row} (hX:Con K B X) (hY:Con K B Y) (hub:∀t∈nms X,∀u∈nms Y,Ub (B t) (B u)):Ub X Y:=by
 obtain ⟨s,hs,h1,h2⟩:=Con.join W hX _ rfl hY hub
 obtain ⟨f,r,q,hf,hfm,hrm,-⟩:=Con.part W (s:=mem (nms Y)) hs (by
  intro n _ h m hm
  exact mem_iff.2 (hY.sub (mem_iff.1 h) m hm))
 have qf:Ps.Q f Y:=Con.uniq W _ rfl hf hY (by
  intro n
  rw[hfm n,mem_iff]
  exact ⟨fun h=>h.2,fun h=>⟨h2 n h,h⟩⟩)
 refine ⟨s,r,q.trans (qf.append_right r),hs.1,h1,fun k hk=>?_⟩
 have:=(hrm k).1 hk
 rw[BW,AO]at this
 rcases List.mem_append.1 this.1 with h|h
 ·exact h
 ·exact absurd (h1 k h) this.2
def ah:Row->Patch->Option (Patch×Row)
 |[],p=>some (p,[])
 |x::l,p=>match ah l p with
  |none=>none
  |some (p1,l1)=>match cP x p1 with
   |none=>none
   |some (p2,x1)=>some (p2,x1::l1)
def rc:Row->Row->Option (Row×Row)
 |l,[]=>some ([],l)
 |l,q::m=>match ah l q with
  |none=>none
  |some (q1,l1)=>match rc l1 m with
   |none=>none
   |some (m',l2)=>some (q1::m',l2)
theorem PX {x p p2:Patch} {l r:Row}:ah (x::l) p=some (p2,r)↔∃p1 l1 x1,ah l p=some (p1,l1)/\cP x p1=some (p2,x1)/\r=x1::l1:=by
 simp only[ah]
 constructor
 ·intro h
  split at h
  ·cases h
  next a b e=>
   split at h
   ·cases h
   next d f e2=>cases h;exact ⟨_,_,_,e,e2,rfl⟩
 ·rintro ⟨p1,l1,x1,e1,e2,rfl⟩
  simp[e1,e2]
theorem Du {q:Patch} {l m a b:Row}:rc l (q::m)=some (a,b)↔∃q1 l1 m',ah l q=some (q1,l1)/\rc l1 m=some (m',b)/\a=q1::m':=by
 simp only[rc]
 constructor
 ·intro h
  split at h
  ·cases h
  next a b e=>
   split at h
   ·cases h
   next d f e2=>cases h;exact ⟨_,_,_,e,e2,rfl⟩
 ·rintro ⟨p1,l1,x1,e1,e2,rfl⟩
  simp[e1,e2]
theorem Ct {x:Patch}:∀{m l a b:Row},rc (x::l) m=some (a,b)↔∃m1 l1 x',rc l m=some (m1,l1)/\bh x m1=some (a,x')/\b=x'::l1
 |[],l,a,b=>by
  simp only[rc,Option.some.injEq,Prod.mk.injEq]
  constructor
  ·rintro ⟨rfl,rfl⟩;exact ⟨[],l,x,⟨rfl,rfl⟩,rfl,rfl⟩
  ·rintro ⟨m1,l1,x',⟨rfl,rfl⟩,h,rfl⟩
   simp[bh]at h
   exact ⟨h.1.symm,by rw[h.2]⟩
 |q::m,l,a,b=>by
  rw[Du]
  constructor
  ·rintro ⟨q1,l1,m',e1,e2,rfl⟩
   obtain ⟨p1,l2,x1,e3,e4,rfl⟩:=PX.1 e1
   obtain ⟨m1,l3,x',e5,e6,rfl⟩:=Ct.1 e2
   exact ⟨p1::m1,l3,x',Du.2 ⟨_,_,_,e3,e5,rfl⟩,Av.2 ⟨_,_,_,e4,e6,rfl⟩,rfl⟩
  ·rintro ⟨m1,l1,x',e1,e2,rfl⟩
   obtain ⟨q1,l2,m2,e3,e4,rfl⟩:=Du.1 e1
   obtain ⟨y',x1,g',e5,e6,rfl⟩:=Av.1 e2
   exact ⟨_,_,_,PX.2 ⟨_,_,_,e3,e5,rfl⟩,Ct.2 ⟨_,_,_,e4,e6,rfl⟩,rfl⟩
theorem Dh:∀{m a b:Row},rc [] m=some (a,b)↔a=m/\b=[]
 |[],a,b=>by
  simp only[rc,Option.some.injEq,Prod.mk.injEq]
  constructor<;>(rintro ⟨rfl,rfl⟩;exact ⟨rfl,rfl⟩)
 |q::m,a,b=>by
  rw[Du]
  constructor
  ·rintro ⟨q1,l1,m',e1,e2,rfl⟩
   simp[ah]at e1
   obtain ⟨rfl,rfl⟩:=e1
   obtain ⟨rfl,rfl⟩:=Dh.1 e2
   exact ⟨rfl,rfl⟩
  ·rintro ⟨rfl,rfl⟩
   exact ⟨q,[],m,rfl,Dh.2 ⟨rfl,rfl⟩,rfl⟩
theorem Lp {m:Row}:∀{l1 l2 a b:Row},rc (l1++l2) m=some (a,b)↔∃m1 b1 b2,rc l2 m=some (m1,b2)/\rc l1 m1=some (a,b1)/\b=b1++b2
 |[],l2,a,b=>by
  simp only[List.nil_append]
  constructor
  ·intro h;exact ⟨a,[],b,h,Dh.2 ⟨rfl,rfl⟩,rfl⟩
  ·rintro ⟨m1,b1,b2,h,h2,rfl⟩
   obtain ⟨rfl,rfl⟩:=Dh.1 h2
   exact h
 |x::l1,l2,a,b=>by
  rw[List.cons_append,Ct]
  constructor
  ·rintro ⟨m1,l3,x',e1,e2,rfl⟩
   obtain ⟨m2,b1,b2,e3,e4,rfl⟩:=Lp.1 e1
   exact ⟨m2,x'::b1,b2,e3,Ct.2 ⟨_,_,_,e4,e2,rfl⟩,rfl⟩
  ·rintro ⟨m1,b1,b2,e1,e2,rfl⟩
   obtain ⟨m2,l3,x',e3,e4,rfl⟩:=Ct.1 e2
   exact ⟨m2,l3++b2,x',Lp.2 ⟨_,_,_,e1,e3,rfl⟩,e4,rfl⟩
theorem UH {s:Nat->Bool} {m:Row} (hm:∀n∈nms m,s n=true):∀{l a b:Row},(∀n∈nms l,s n=false)->(ex s (l++m)=some (a,b)↔rc l m=some (a,b))
 |[],a,b,_=>by
  rw[Dh,List.nil_append]
  have:=DL (s:=s) (f:=m) (r:=[]) hm (by simp[nms])
  rw[List.append_nil]at this
  rw[this]
  simp only[Option.some.injEq,Prod.mk.injEq]
  exact ⟨fun h=>⟨h.1.symm,h.2.symm⟩,fun h=>⟨h.1.symm,h.2.symm⟩⟩
 |x::l,a,b,hl=>by
  rw[List.cons_append,Be (hl _ (by simp[nms])),Ct]
  have hl':∀n∈nms l,s n=false:=fun n hn=>hl n (by simp[nms]at hn ⊢;exact Or.inr hn)
  constructor
  ·rintro ⟨f',r',x',e1,e2,rfl⟩
   exact ⟨f',r',x',(UH hm hl').1 e1,e2,rfl⟩
  ·rintro ⟨f',r',x',e1,e2,rfl⟩
   exact ⟨f',r',x',(UH hm hl').2 e1,e2,rfl⟩
theorem Cu:∀{l m a b:Row},rc l m=some (a,b)->Q (l++m) (a++b)/\nms a=nms m/\nms b=nms l
 |[],m,a,b,h=>by
  obtain ⟨rfl,rfl⟩:=Dh.1 h
  exact ⟨by simpa using Q.refl _,rfl,rfl⟩
 |x::l,m,a,b,h=>by
  obtain ⟨m1,l1,x',e1,e2,rfl⟩:=Ct.1 h
  obtain ⟨q,e3,e4⟩:=Cu e1
  obtain ⟨q2,e5,e6⟩:=Ee e2
  refine ⟨(Q.cons x q).trans ?_,by rw[e5,e3],by simp[nms,e6]at e4 ⊢;exact e4⟩
  have:=q2.append_right l1
  simpa using this
def turnR (l:Row):Row:=(l.map tP).reverse
theorem T3 (l:Row):turnR (turnR l)=l:=by
 simp[turnR,List.map_reverse,Function.comp_def,Kd]
theorem KM (x:Patch) (l:Row):turnR (x::l)=turnR l++[tP x]:=by simp[turnR]
theorem VT:∀{f g:Row} {x y:Patch},bh x f=some (g,y)->bh (tP x) g=some (f,tP y)
 |[],g,x,y,h=>by
  simp[bh]at h
  obtain ⟨rfl,rfl⟩:=h
  rfl
 |z::f,g,x,y,h=>by
  obtain ⟨y',x',g',e1,e2,rfl⟩:=Av.1 h
  exact Av.2 ⟨_,_,_,p2 e1,VT e2,rfl⟩
theorem SJ:∀{l m a b:Row},rc l m=some (a,b)->rc (turnR l) a=some (m,turnR b)
 |[],m,a,b,h=>by
  obtain ⟨rfl,rfl⟩:=Dh.1 h
  exact Dh.2 ⟨rfl,rfl⟩
 |x::l,m,a,b,h=>by
  obtain ⟨m1,l1,x',e1,e2,rfl⟩:=Ct.1 h
  rw[KM,KM]
  exact Lp.2 ⟨m1,turnR l1,[tP x'],Ct.2 ⟨a,[],tP x',Dh.2 ⟨rfl,rfl⟩,VT e2,rfl⟩,SJ e1,rfl⟩
theorem Y3 {m m':Row} (h:Q m m'):∀{l a b:Row},rc l m=some (a,b)->∃a',rc l m'=some (a',b)/\Q a a'
 |[],a,b,e=>by
  obtain ⟨rfl,rfl⟩:=Dh.1 e
  exact ⟨m',Dh.2 ⟨rfl,rfl⟩,h⟩
 |x::l,a,b,e=>by
  obtain ⟨m1,l1,x',e1,e2,rfl⟩:=Ct.1 e
  obtain ⟨a1,e3,q⟩:=Y3 h e1
  obtain ⟨a2,e4,q2⟩:=Xm q e2
  exact ⟨a2,Ct.2 ⟨_,_,_,e3,e4,rfl⟩,q2⟩
end Ps
end
section
namespace Ps
open VapatBase
open Vapatc (Patch Row)
variable {K:Nat->Prop} {B:Nat->Row}
def AOk (a:Row):Prop:=∀p∈a,Ok p.step
theorem AOk.cons {p:Patch} {a:Row}:AOk (p::a)↔Ok p.step/\AOk a:=by simp[AOk]
theorem AOk.append {a b:Row}:AOk (a++b)↔AOk a/\AOk b:=by
 simp only[AOk,List.mem_append]
 exact ⟨fun h=>⟨fun p hp=>h p (Or.inl hp),fun p hp=>h p (Or.inr hp)⟩,fun h p hp=>hp.elim (h.1 p) (h.2 p)⟩
theorem AOk.Q {a b:Row} (h:Q a b):AOk a->AOk b:=by
 induction h with
 |refl a=>exact id
 |swap r h=>
  intro k
  obtain ⟨hp,hq,e,-⟩:=Bw.1 h
  have:=okc hp hq e
  rw[AOk.cons,AOk.cons]at k ⊢
  exact ⟨this.1,this.2,k.2.2⟩
 |cons p _ ih=>
  intro k
  rw[AOk.cons]at k ⊢
  exact ⟨k.1,ih k.2⟩
 |trans _ _ ih1 ih2=>exact fun k=>ih2 (ih1 k)
theorem AOk.turnR {a:Row} (h:AOk a):AOk (turnR a):=by
 intro p hp
 simp[Ps.turnR]at hp
 obtain ⟨x,hx,rfl⟩:=hp
 exact okt (h x hx)
theorem OD (l:Row):Vapatc.named (nms l) (Vapatc.stepsOf l)=l:=by
 induction l with
 |nil=>rfl
 |cons p l ih=>
  simp only[Vapatc.named,nms,Vapatc.stepsOf,List.map_cons,List.zip_cons_cons]at ih ⊢
  rw[ih]
theorem DH (l:Row):Vapatc.namesOf l=nms l:=rfl
theorem Qg (l:Row):Vapatc.stepsOf (turnR l)=turnedAll (Vapatc.stepsOf l):=by
 simp[Vapatc.stepsOf,turnR,turnedAll,List.map_reverse,Function.comp_def,tP]
theorem TC {p q:Patch} (hp:Ok p.step) (hq:Ok q.step):cP p q=none↔commuted p.step q.step=none:=by
 unfold cP
 rw[if_pos (by simp[MA,hp,hq])]
 simp
theorem KJ:∀{l:Row} {p:Patch},AOk l->Ok p.step->
  (∀x y,Vapatb.aheadOf (Vapatc.stepsOf l) p.step=.ok (x,y)->ah l p=some (⟨p.name,x⟩,Vapatc.named (nms l) y)/\y.length=l.length)
  /\(∀n,Vapatb.aheadOf (Vapatc.stepsOf l) p.step=.error n->ah l p=none)
 |[],p,_,_=>by
  constructor
  ·intro x y h
   simp[Vapatb.aheadOf,Vapatc.stepsOf]at h
   obtain ⟨rfl,rfl⟩:=h
   exact ⟨rfl,rfl⟩
  ·intro n h
   simp[Vapatb.aheadOf,Vapatc.stepsOf]at h
 |z::l,p,hl,hp=>by
  obtain ⟨hz,hl⟩:=AOk.cons.1 hl
  have ih:=KJ hl hp
  have e0:Vapatc.stepsOf (z::l)=z.step::Vapatc.stepsOf l:=rfl
  simp only[e0,Vapatb.aheadOf]
  cases hc:Vapatb.aheadOf (Vapatc.stepsOf l) p.step with
  |error n=>
   have:=ih.2 n hc
   refine ⟨fun x y h=>by simp at h,fun m h=>by simp[ah,this]⟩
  |ok r=>
   obtain ⟨q1,l1⟩:=r
   obtain ⟨k1,k2⟩:=ih.1 _ _ hc
   have oq:Ok q1:=by
    have:AOk (⟨p.name,q1⟩::Vapatc.named (nms l) l1):=by
     have hq:=AOk.Q (a:=l++[p]) (b:=⟨p.name,q1⟩::Vapatc.named (nms l) l1) ?_ (AOk.append.2 ⟨hl,by simpa [AOk] using hp⟩)
     ·exact hq
     ·have hr:rc l [p]=some ([⟨p.name,q1⟩],Vapatc.named (nms l) l1):=Du.2 ⟨_,_,[],k1,rfl,rfl⟩
      exact (Cu hr).1
    exact (AOk.cons.1 this).1
   simp only
   cases hd:commuted z.step q1 with
   |none=>
    refine ⟨fun x y h=>by simp at h,fun m h=>?_⟩
    simp only[ah,k1]
    rw[(TC (q:=⟨p.name,q1⟩) hz oq).2 hd]
   |some r=>
    obtain ⟨q2,z1⟩:=r
    refine ⟨fun x y h=>?_,fun m h=>by simp at h⟩
    simp at h
    obtain ⟨rfl,rfl⟩:=h
    refine ⟨?_,by simp[k2]⟩
    simp only[ah,k1]
    rw[Qt (q:=⟨p.name,q1⟩) hz oq hd]
    simp[Vapatc.named,nms]
theorem Ko {l r:Row} {p:Patch} {n:Nat} (hl:n∉nms l) (hp:p.name=n):Vapatc.placeOf (l++p::r) n=some l.length:=by
 unfold Vapatc.placeOf
 induction l with
 |nil=>simp[List.findIdx?_cons,hp]
 |cons x l ih=>
  have hx:x.name≠n:=fun h=>hl (by simp[nms,h])
  have hl':n∉nms l:=fun h=>hl (by simp[nms]at h ⊢;exact Or.inr h)
  rw[List.cons_append,List.findIdx?_cons]
  simp[hx,ih hl']
theorem placeOf_none {r:Row} {n:Nat} (h:n∉nms r):Vapatc.placeOf r n=none:=by
 unfold Vapatc.placeOf
 rw[List.findIdx?_eq_none_iff]
 intro x hx
 simp
 rintro rfl
 exact h (by simp[nms];exact ⟨x,hx,rfl⟩)
theorem Lv {r:Row} {n:Nat} (h:n∈nms r):∃l p r',r=l++p::r'/\p.name=n/\n∉nms l:=by
 induction r with
 |nil=>simp[nms]at h
 |cons x r ih=>
  by_cases hx:x.name=n
  ·exact ⟨[],x,r,rfl,hx,by simp[nms]⟩
  ·have:n∈nms r:=by
    simp[nms]at h ⊢
    rcases h with h|h
    ·exact absurd h.symm hx
    ·exact h
   obtain ⟨l,p,r',rfl,e,hl⟩:=ih this
   refine ⟨x::l,p,r',rfl,e,?_⟩
   simp[nms]at hl ⊢
   exact ⟨fun h=>hx h.symm,hl⟩
theorem Gm {l r:Row} {p:Patch} {n:Nat} (hl:n∉nms l) (hp:p.name=n) (ok:AOk (l++p::r)):
  Vapatc.front (l++p::r) n=(ah l p).map fun x=>(x.1,x.2++r):=by
 unfold Vapatc.front
 rw[Ko hl hp]
 simp only[Option.bind_some,Vapatc.frontAt]
 have e1:(l++p::r)[l.length]?=some p:=by simp
 have e2:(l++p::r).take l.length=l:=by simp
 have e3:(l++p::r).drop (l.length+1)=r:=by
  rw[List.drop_append]
  simp
 rw[e1,e2,e3]
 simp only
 rw[AOk.append,AOk.cons]at ok
 have:=KJ ok.1 ok.2.1
 cases hc:Vapatb.aheadOf (Vapatc.stepsOf l) p.step with
 |error m=>simp[this.2 m hc]
 |ok x=>
  obtain ⟨a,b⟩:=x
  simp[(this.1 a b hc).1,DH]
theorem VQ {n:Nat} {r:Row} (hr:n∉nms r):∀{l:Row} {p:Patch},n∉nms l->p.name=n->
  ex (·==n) (l++p::r)=(ah l p).map fun x=>([x.1],x.2++r)
 |[],p,_,hp=>by
  have:=DL (s:=(·==n)) (f:=[p]) (r:=r) (by simp[nms,hp]) (by
   intro m hm
   simp
   rintro rfl
   exact hr hm)
  simpa [ah] using this
 |x::l,p,hl,hp=>by
  have hx:x.name≠n:=fun h=>hl (by simp[nms,h])
  have hl':n∉nms l:=fun h=>hl (by simp[nms]at h ⊢;exact Or.inr h)
  have ih:=VQ hr (l:=l) (p:=p) hl' hp
  simp only[List.cons_append,ex,ih,ah]
  cases ah l p with
  |none=>rfl
  |some y=>
   obtain ⟨p1,l1⟩:=y
   simp only[Option.map_some]
   rw[if_neg (by simpa using hx)]
   simp only[bh]
   cases cP x p1 with
   |none=>rfl
   |some z=>rfl
theorem NT {a:Row} {n:Nat} (ok:AOk a) (hn:(nms a).Nodup) (hm:n∈nms a) {p:Patch} {r:Row}:Vapatc.front a n=some (p,r)↔ex (·==n) a=some ([p],r):=by
 obtain ⟨l,q,r',rfl,e,hl⟩:=Lv hm
 have hr:n∉nms r':=by
  have:=(Ac hn).2.1
  simp[nms,e]at this ⊢
  exact this.1
 rw[Gm hl e ok,VQ hr hl e]
 cases ah l q with
 |none=>simp
 |some x=>simp
theorem Pu {a:Row} {n:Nat} {x:Patch×Row} (h:Vapatc.front a n=some x):n∈nms a:=by
 by_cases hm:n∈nms a
 ·exact hm
 ·unfold Vapatc.front at h
  rw[placeOf_none hm]at h
  simp at h
theorem Gq {a:Row} {n:Nat} (ok:AOk a) (hn:(nms a).Nodup) {p:Patch} {r:Row} (h:Vapatc.front a n=some (p,r)):Q a (p::r)/\p.name=n:=by
 have hm:=Pu h
 have e:=(NT ok hn hm).1 h
 obtain ⟨q,e1,-⟩:=C1 e
 refine ⟨by simpa using q,?_⟩
 have:p.name∈(nms a).filter (·==n):=by rw[<-e1];simp[nms]
 simpa using (List.mem_filter.1 this).2
theorem XI {a b:Row} {n:Nat} (q:Q a b) (ok:AOk a) (hn:(nms a).Nodup) {p:Patch} {r:Row} (h:Vapatc.front a n=some (p,r)):∃r',Vapatc.front b n=some (p,r')/\Q r r':=by
 have hm:=Pu h
 obtain ⟨f,r',e,q1,q2⟩:=EH q ((NT ok hn hm).1 h)
 rw[q1.single]at e
 exact ⟨r',(NT (AOk.Q q ok) (q.nodup hn) (q.mem.1 hm)).2 e,q2⟩
theorem UT {p:Patch} {r:Row} (ok:AOk (p::r)):Vapatc.front (p::r) p.name=some (p,r):=by
 have:=Gm (l:=[]) (p:=p) (r:=r) (n:=p.name) (by simp[nms]) rfl (by simpa using ok)
 simpa [ah] using this
theorem C3:∀{ns:List Nat} {a x r:Row},AOk a->(nms a).Nodup->Vapate.takeFront ns a=some (x,r)->Q a (x++r)/\nms x=ns
 |[],a,x,r,_,_,h=>by
  simp[Vapate.takeFront]at h
  obtain ⟨rfl,rfl⟩:=h
  exact ⟨.refl _,rfl⟩
 |n::ns,a,x,r,ok,hn,h=>by
  simp only[Vapate.takeFront,Option.bind_eq_some_iff,Option.map_eq_some_iff]at h
  obtain ⟨⟨p,r1⟩,e1,⟨y,r2⟩,e2,e3⟩:=h
  cases e3
  obtain ⟨q,e⟩:=Gq ok hn e1
  have ok1:=(AOk.cons.1 (AOk.Q q ok)).2
  have hn1:(nms r1).Nodup:=by
   have:=q.nodup hn
   simp[nms]at this ⊢
   exact this.2
  obtain ⟨q2,e4⟩:=C3 ok1 hn1 e2
  exact ⟨q.trans (q2.cons p),by simp[nms,e]at e4 ⊢;exact e4⟩
theorem UX:∀{ns:List Nat} {a b x r:Row},Q a b->AOk a->(nms a).Nodup->Vapate.takeFront ns a=some (x,r)->∃r',Vapate.takeFront ns b=some (x,r')/\Q r r'
 |[],a,b,x,r,q,_,_,h=>by
  simp[Vapate.takeFront]at h
  obtain ⟨rfl,rfl⟩:=h
  exact ⟨b,rfl,q⟩
 |n::ns,a,b,x,r,q,ok,hn,h=>by
  simp only[Vapate.takeFront,Option.bind_eq_some_iff,Option.map_eq_some_iff]at h
  obtain ⟨⟨p,r1⟩,e1,⟨y,r2⟩,e2,e3⟩:=h
  cases e3
  obtain ⟨q1,e⟩:=Gq ok hn e1
  have ok1:=(AOk.cons.1 (AOk.Q q1 ok)).2
  have hn1:(nms r1).Nodup:=by
   have:=q1.nodup hn
   simp[nms]at this ⊢
   exact this.2
  obtain ⟨r',e4,q2⟩:=XI q ok hn e1
  obtain ⟨r'',e5,q3⟩:=UX q2 ok1 hn1 e2
  exact ⟨r'',by simp[Vapate.takeFront,e4,e5],q3⟩
theorem M9:∀{f r:Row},AOk (f++r)->Vapate.takeFront (nms f) (f++r)=some (f,r)
 |[],r,_=>rfl
 |p::f,r,ok=>by
  have ok1:AOk (f++r):=(AOk.cons.1 ok).2
  have e:nms (p::f)=p.name::nms f:=rfl
  have e2:Vapatc.front (p::(f++r)) p.name=some (p,f++r):=UT ok
  rw[e,Vapate.takeFront,List.cons_append,e2]
  simp[M9 ok1]
theorem Pk (r:Row) (l:List Nat):Vapatc.picked r l=Vapate.takeFront (Vapatc.closure r l) r:=by
 unfold Vapatc.picked
 have key:∀(ns:List Nat) (x y:Row),ns.foldl (fun (x:Option (Row×Row)) n=>x.bind fun y=>(Vapatc.front y.2 n).map fun z=>(y.1++[z.1],z.2)) (some (x,y))
   =(Vapate.takeFront ns y).map fun z=>(x++z.1,z.2):=by
  intro ns
  induction ns with
  |nil=>intro x y;simp[Vapate.takeFront]
  |cons n ns ih=>
   intro x y
   simp only[List.foldl_cons,Option.bind_some,Vapate.takeFront]
   cases hf:Vapatc.front y n with
   |none=>
    have:∀ns:List Nat,ns.foldl (fun (x:Option (Row×Row)) n=>x.bind fun y=>(Vapatc.front y.2 n).map fun z=>(y.1++[z.1],z.2)) none=none:=by
     intro ns
     induction ns with
     |nil=>rfl
     |cons n ns ih=>simpa using ih
    simp[this]
   |some z=>
    simp only[Option.map_some,Option.bind_some]
    rw[ih]
    cases Vapate.takeFront ns z.2 with
    |none=>rfl
    |some w=>simp
 rw[key]
 cases Vapate.takeFront (Vapatc.closure r l) r with
 |none=>rfl
 |some w=>simp
theorem M4 {ns:List Nat} {l:List Step} (h:l.length=ns.length):Vapatc.stepsOf (Vapatc.named ns l)=l/\nms (Vapatc.named ns l)=ns:=by
 induction ns generalizing l with
 |nil=>
  have:=List.eq_nil_of_length_eq_zero h
  subst this
  exact ⟨rfl,rfl⟩
 |cons n ns ih=>
  cases l with
  |nil=>simp at h
  |cons x l=>
   have:=ih (l:=l) (by simpa using h)
   simp only[Vapatc.named,Vapatc.stepsOf,nms,List.zip_cons_cons,List.map_cons]at this ⊢
   exact ⟨by rw[this.1],by rw[this.2]⟩
theorem KS {l:Row} {p p':Patch} {l':Row} (h:ah l p=some (p',l')):Q (l++[p]) (p'::l')/\nms l'=nms l/\p'.name=p.name:=by
 have hr:rc l [p]=some ([p'],l'):=Du.2 ⟨_,_,[],h,rfl,rfl⟩
 obtain ⟨q,e1,e2⟩:=Cu hr
 exact ⟨q,e2,by simpa [nms] using e1⟩
theorem Wo:∀{m l:Row},AOk l->AOk m->
  (∀x y,Vapatb.rowsCommuted (Vapatc.stepsOf l) (Vapatc.stepsOf m)=some (x,y)->rc l m=some (Vapatc.named (nms m) x,Vapatc.named (nms l) y)/\x.length=m.length/\y.length=l.length)
  /\(Vapatb.rowsCommuted (Vapatc.stepsOf l) (Vapatc.stepsOf m)=none->rc l m=none)
 |[],l,_,_=>by
  constructor
  ·intro x y h
   simp[Vapatc.stepsOf,Vapatb.rowsCommuted]at h
   obtain ⟨rfl,rfl⟩:=h
   refine ⟨?_,rfl,by simp⟩
   have:=OD l
   simp only[Vapatc.stepsOf]at this
   rw[this]
   rfl
  ·intro h
   simp[Vapatc.stepsOf,Vapatb.rowsCommuted]at h
 |q::m,l,ol,om=>by
  obtain ⟨oq,om⟩:=AOk.cons.1 om
  have e0:Vapatc.stepsOf (q::m)=q.step::Vapatc.stepsOf m:=rfl
  have A:=KJ ol oq
  simp only[e0,Vapatb.rowsCommuted]
  cases hc:Vapatb.aheadOf (Vapatc.stepsOf l) q.step with
  |error n=>
   refine ⟨fun x y h=>by simp at h,fun _=>?_⟩
   simp[rc,A.2 n hc]
  |ok r=>
   obtain ⟨q1,l1⟩:=r
   obtain ⟨k1,k2⟩:=A.1 _ _ hc
   obtain ⟨q2,e2,e3⟩:=KS k1
   have ol1:AOk (Vapatc.named (nms l) l1):=(AOk.cons.1 (AOk.Q q2 (AOk.append.2 ⟨ol,by simpa [AOk] using oq⟩))).2
   have ns:=M4 (ns:=nms l) (l:=l1) (by simp[nms,k2])
   have ih:=Wo (m:=m) ol1 om
   rw[ns.1]at ih
   simp only
   cases hd:Vapatb.rowsCommuted l1 (Vapatc.stepsOf m) with
   |none=>
    refine ⟨fun x y h=>by simp at h,fun _=>?_⟩
    simp[rc,k1,ih.2 hd]
   |some w=>
    obtain ⟨m',l2⟩:=w
    obtain ⟨i1,i2,i3⟩:=ih.1 _ _ hd
    rw[ns.2]at i1
    refine ⟨fun x y h=>?_,fun h=>by simp at h⟩
    simp at h
    obtain ⟨rfl,rfl⟩:=h
    refine ⟨?_,by simp[i2],?_⟩
    ·simp only[rc,k1,i1]
     rfl
    ·rw[i3];simp[Vapatc.named,nms,k2]
end Ps
end
section
namespace Ps
open VapatBase
open Vapatc (Patch Row)
variable {K:Nat->Prop} {B:Nat->Row}
def bf:Row->Row->Row
 |[],b=>b
 |x::l,b=>match bh x b with
  |some (b',_)=>bf l b'
  |none=>bf l (x::b)
def KY (n:Nat) (b:Row):Prop:=∀d e,Q b (d++[e])->e.name=n
theorem nodup_cons {x:Patch} {b:Row} (h:(nms (x::b)).Nodup):x.name∉nms b/\(nms b).Nodup:=by
 have:nms (x::b)=x.name::nms b:=rfl
 rw[this,List.nodup_cons]at h
 exact h
theorem Tb {x:Patch} {b:Row} (h:(nms (x::b)).Nodup):ex (·==x.name) (x::b)=some ([x],b):=by
 have:=DL (s:=(·==x.name)) (f:=[x]) (r:=b) (by simp[nms]) (by
  intro m hm
  simp
  rintro rfl
  exact (nodup_cons h).1 hm)
 simpa using this
theorem VY {n:Nat} {x:Patch} {b:Row} (h:KY n b) (hb:bh x b=none) (hn:(nms (x::b)).Nodup):KY n (x::b):=by
 intro d e q
 have hnd:=q.nodup hn
 by_cases he:e.name=x.name
 ·exfalso
  have hd:∀m,m∈nms d↔m∈nms b:=by
   intro m
   have:=q.mem (n:=m)
   rw[Cb]at this
   have hx:m∈nms (x::b)↔m=x.name\/m∈nms b:=by simp[nms]
   rw[hx]at this
   constructor
   ·intro k
    have hne:m≠x.name:=by
     rintro rfl
     exact (Ac hnd).2.2 _ k (by simp[nms,he])
    rcases this.2 (Or.inl k) with h1|h1
    ·exact absurd h1 hne
    ·exact h1
   ·intro k
    have hne:m≠x.name:=by
     rintro rfl
     exact (nodup_cons hn).1 k
    rcases this.1 (Or.inr k) with h1|h1
    ·exact h1
    ·exact absurd (h1.trans he) hne
  have e1:ex (mem (nms b)) (d++[e])=some (d,[e]):=DL (fun m hm=>mem_iff.2 ((hd m).1 hm)) (by
   intro m hm
   simp[nms]at hm
   subst hm
   rw[he,BW]
   exact (nodup_cons hn).1)
  obtain ⟨f,r,e2,-,-⟩:=EH q.symm e1
  obtain ⟨f',r',x',e3,e4,-⟩:=(Be (BW.2 (nodup_cons hn).1)).1 e2
  have e5:ex (mem (nms b)) b=some (b,[]):=by
   have:=DL (s:=mem (nms b)) (f:=b) (r:=[]) (fun m hm=>mem_iff.2 hm) (by simp[nms])
   simpa using this
  rw[e5]at e3
  cases e3
  rw[hb]at e4
  cases e4
 ·obtain ⟨f,r,e1,-,q2⟩:=EH q (Tb hn)
  obtain ⟨fa,ra,f2,e2,-⟩:=Cf e1
  have e3:=Hx (b:=[e]) (by simpa [nms] using he) e2
  rw[e3]at e1
  cases e1
  exact h _ _ q2
theorem VE {n:Nat} {z z':Patch} {b b':Row} (h:KY n b) (hb:bh z b=some (b',z')) (hn:(nms (z::b)).Nodup):KY n b':=by
 intro d e q
 obtain ⟨q1,e1,e2⟩:=Ee hb
 have q2:Q (z::b) (d++[e]++[z']):=q1.trans (q.append_right [z'])
 obtain ⟨f,r,e3,-,q3⟩:=EH q2 (Tb hn)
 have hs:=(C1 e3).2.2
 have hnd:=q2.nodup hn
 have hd:∀m∈nms (d++[e]),m≠z.name:=by
  rintro m hm rfl
  exact (Ac hnd).2.2 _ hm (by simp[nms,e2])
 rw[AO,List.filter_append]at hs
 have f1:(nms (d++[e])).filter (fun n=>!(n==z.name))=nms (d++[e]):=by
  rw[List.filter_eq_self]
  intro m hm
  simpa using hd m hm
 have f2:(nms [z']).filter (fun n=>!(n==z.name))=[]:=by simp[nms,e2]
 rw[f1,f2,List.append_nil,Gb]at hs
 obtain ⟨r',y,rfl⟩:=Bx (r:=r) (by rintro rfl;simp[nms]at hs)
 rw[Gb]at hs
 have:=(List.append_inj' hs rfl).2
 simp at this
 rw[<-this]
 exact h _ _ q3
theorem K0 {n:Nat}:∀{l b:Row},KY n b->(nms (l.reverse++b)).Nodup->(∃t,nms b=t++[n])->
  ∃d,Q (l.reverse++b) (bf l b++d)/\KY n (bf l b)/\(nms (bf l b)).Sublist (nms (l.reverse++b))/\∃t,nms (bf l b)=t++[n]
 |[],b,ho,_,ht=>⟨[],by simpa [bf] using Q.refl b,ho,by simp[bf],ht⟩
 |x::l,b,ho,hn,ht=>by
  have e0:(x::l).reverse++b=l.reverse++(x::b):=by simp
  rw[e0]at hn ⊢
  have hn1:=(Ac hn).2.1
  simp only[bf]
  cases hb:bh x b with
  |none=>
   obtain ⟨t,ht⟩:=ht
   exact K0 (VY ho hb hn1) hn ⟨x.name::t,by simp[nms]at ht ⊢;exact ht⟩
  |some y=>
   obtain ⟨b',x'⟩:=y
   obtain ⟨q1,e1,e2⟩:=Ee hb
   have hn2:(nms (l.reverse++b')).Nodup:=by
    rw[AO,e1]
    rw[AO]at hn
    have:(nms (x::b))=x.name::nms b:=rfl
    rw[this]at hn
    rw[List.nodup_append]at hn ⊢
    refine ⟨hn.1,(List.nodup_cons.1 hn.2.1).2,fun a ha c hc=>hn.2.2 a ha c (List.mem_cons_of_mem _ hc)⟩
   obtain ⟨d,q2,o2,s2,t2⟩:=K0 (VE ho hb hn1) hn2 (by rw[e1];exact ht)
   refine ⟨d++[x'],?_,o2,?_,t2⟩
   ·have q3:=q1.append_left l.reverse
    have q4:=q2.append_right [x']
    rw[<-List.append_assoc]
    rw[<-List.append_assoc]at q3
    exact q3.trans q4
   ·refine s2.trans ?_
    rw[AO,AO,e1]
    exact List.Sublist.append (List.Sublist.refl _) (List.sublist_cons_self _ _)
theorem JT (p:Patch):KY p.name [p]:=by
 intro d e q
 have:=q.single
 cases d with
 |nil=>simp at this;rw[this]
 |cons x d=>simp at this
theorem Pn:∀{l:Row} {p:Patch},AOk l->Ok p.step->
  (∀x y,Vapatb.behind p.step (Vapatc.stepsOf l)=.ok (x,y)->bh p l=some (Vapatc.named (nms l) x,⟨p.name,y⟩)/\x.length=l.length)
  /\(∀n,Vapatb.behind p.step (Vapatc.stepsOf l)=.error n->bh p l=none)
 |[],p,_,_=>by
  constructor
  ·intro x y h
   simp[Vapatb.behind,Vapatc.stepsOf]at h
   obtain ⟨rfl,rfl⟩:=h
   exact ⟨rfl,rfl⟩
  ·intro n h
   simp[Vapatb.behind,Vapatc.stepsOf]at h
 |z::l,p,hl,hp=>by
  obtain ⟨hz,hl⟩:=AOk.cons.1 hl
  have e0:Vapatc.stepsOf (z::l)=z.step::Vapatc.stepsOf l:=rfl
  simp only[e0,Vapatb.behind]
  cases hc:commuted p.step z.step with
  |none=>
   refine ⟨fun x y h=>by simp at h,fun m h=>?_⟩
   simp only[bh]
   rw[(TC hp hz).2 hc]
  |some r=>
   obtain ⟨z1,p1⟩:=r
   have ok:=okc hp hz hc
   have ih:=Pn (l:=l) (p:=⟨p.name,p1⟩) hl ok.2
   have e1:=Qt hp hz hc
   simp only
   cases hd:Vapatb.behind p1 (Vapatc.stepsOf l) with
   |error n=>
    refine ⟨fun x y h=>by simp at h,fun m h=>?_⟩
    simp only[bh,e1]
    rw[ih.2 n hd]
   |ok w=>
    obtain ⟨l1,p2⟩:=w
    obtain ⟨i1,i2⟩:=ih.1 _ _ hd
    refine ⟨fun x y h=>?_,fun m h=>by simp at h⟩
    simp at h
    obtain ⟨rfl,rfl⟩:=h
    refine ⟨?_,by simp[i2]⟩
    simp only[bh,e1,i1]
    rfl
inductive Al (g:Nat->Nat):List (Step×Nat)->Row->Prop
 |nil:Al g [] []
 |cons {z:List (Step×Nat)} {l:Row} {x:Patch} {j:Nat}:g j=x.name->Al g z l->Al g ((x.step,j)::z) (x::l)
theorem Xi {g:Nat->Nat}:∀(k:Nat) {pre:Row},pre.length=k->(∀i,∀h:i<pre.length,g i=(pre[i]).name)->Al g ((Vapatc.stepsOf pre).zipIdx.reverse) pre.reverse:=by
 intro k
 induction k with
 |zero=>
  intro pre hk _
  have:=List.eq_nil_of_length_eq_zero hk
  subst this
  exact .nil
 |succ k ih=>
  intro pre hk hg
  obtain ⟨l,x,rfl⟩:=Bx (r:=pre) (by rintro rfl;simp at hk)
  have hl:l.length=k:=by simpa using hk
  have:=ih hl (fun i h=>by
   have:=hg i (by simp;omega)
   rw[List.getElem_append_left h]at this
   exact this)
  have e:Vapatc.stepsOf (l++[x])=Vapatc.stepsOf l++[x.step]:=by simp[Vapatc.stepsOf]
  rw[e,List.zipIdx_append]
  simp only[List.zipIdx_cons,List.zipIdx_nil,List.reverse_append,List.reverse_cons,List.reverse_nil,List.nil_append,List.cons_append]
  refine .cons ?_ this
  have:=hg l.length (by simp)
  simp[Vapatc.stepsOf]at this ⊢
  exact this
theorem We {g:Nat->Nat} {t:List Nat}:∀{z:List (Step×Nat)} {l b:Row} {k:List Nat},Al g z l->AOk l->AOk b->nms b=k.map g++t->
  nms (bf l b)=(Vapatb.needsFrom z (Vapatc.stepsOf b) k).map g++t:=by
 intro z l b k h
 induction h generalizing b k with
 |nil=>intro _ _ e;simpa [bf,Vapatb.needsFrom] using e
 |@cons z l x j hg _ ih=>
  intro ol ob e
  obtain ⟨ox,ol⟩:=AOk.cons.1 ol
  have A:=Pn ob ox
  simp only[bf,Vapatb.needsFrom]
  cases hc:Vapatb.behind x.step (Vapatc.stepsOf b) with
  |error n=>
   rw[A.2 n hc]
   simp only
   have:=ih (b:=x::b) (k:=j::k) ol (AOk.cons.2 ⟨ox,ob⟩) (by simp[nms,hg]at e ⊢;exact e)
   rw[this]
   rfl
  |ok w=>
   obtain ⟨b1,y⟩:=w
   obtain ⟨e1,e2⟩:=A.1 _ _ hc
   rw[e1]
   simp only
   have nl:=M4 (ns:=nms b) (l:=b1) (by simp[nms,e2])
   have ob1:AOk (Vapatc.named (nms b) b1):=(AOk.append.1 (AOk.Q (Ee e1).1 (AOk.cons.2 ⟨ox,ob⟩))).1
   have:=ih (b:=Vapatc.named (nms b) b1) (k:=k) ol ob1 (by rw[nl.2];exact e)
   rw[this,nl.1]
theorem SN {pre post:Row} {p:Patch} (ok:AOk (pre++p::post)) (hn:(nms (pre++p::post)).Nodup):
  nms (bf pre.reverse [p])=Vapatc.needs (pre++p::post) p.name++[p.name]:=by
 have hp:p.name∉nms pre:=fun h=>(Ac hn).2.2 _ h (by simp[nms])
 unfold Vapatc.needs
 rw[Ko hp rfl]
 simp only[Vapatb.needs]
 have e1:(Vapatc.stepsOf (pre++p::post))[pre.length]?=some p.step:=by simp[Vapatc.stepsOf]
 have e2:(Vapatc.stepsOf (pre++p::post)).take pre.length=Vapatc.stepsOf pre:=by simp[Vapatc.stepsOf]
 rw[e1,e2]
 simp only
 rw[AOk.append,AOk.cons]at ok
 exact We (g:=fun j=>(((pre++p::post)[j]?).map fun p=>p.name).getD 0) (t:=[p.name]) (k:=[]) (b:=[p])
  (Xi _ rfl (by
   intro i h
   rw[List.getElem?_append_left h]
   simp[h]))
  (fun x hx=>ok.1 x (by simpa using hx)) (by simpa [AOk] using ok.2.1) (by simp[nms])
theorem Con.needs_sub (W:World K B) {a:Row} (h:Con K B a) (ok:AOk a) {m:Nat} (hm:m∈nms a):∀n∈Vapatc.needs a m,n∈nms (B m):=by
 obtain ⟨pre,p,post,rfl,rfl,hl⟩:=Lv hm
 have e:=SN ok h.1
 have ha:pre++p::post=(pre++[p])++post:=by simp
 have hc:Con K B (pre++[p]):=by rw[ha]at h;exact h.prefix W
 obtain ⟨d,q,ho,-,-⟩:=K0 (n:=p.name) (l:=pre.reverse) (b:=[p]) (JT p) (by simpa using hc.1) ⟨[],by simp[nms]⟩
 rw[List.reverse_reverse]at q
 obtain ⟨k,s,q1⟩:=hc.2 p.name (by simp[nms])
 obtain ⟨f,r,e1,-,-⟩:=EH (q1.symm.trans q) (BI (q1.nodup hc.1))
 obtain ⟨fa,ra,f2,e2,-⟩:=Cf e1
 obtain ⟨q2,s1,s2⟩:=C1 e2
 have hra:ra=[]:=by
  by_cases hr:ra=[]
  ·exact hr
  ·exfalso
   obtain ⟨r',y,rfl⟩:=Bx hr
   rw[<-List.append_assoc]at q2
   have hy:=ho _ _ q2
   have:y.name∈nms (r'++[y]):=by simp[nms]
   rw[s2]at this
   have:=(List.mem_filter.1 this).2
   simp only[Bool.not_eq_true']at this
   rw[hy,BW]at this
   exact this (W.self_mem k)
 subst hra
 intro n hn
 have:n∈nms (bf pre.reverse [p]):=by rw[e];exact List.mem_append_left _ hn
 rw[q2.mem,List.append_nil,s1]at this
 exact mem_iff.1 (List.mem_filter.1 this).2
theorem filter_sublist {l a:List Nat} (h:a.Sublist l) (hn:l.Nodup):l.filter (fun n=>a.contains n)=a:=by
 induction h with
 |slnil=>rfl
 |@cons a l x h ih=>
  rw[List.nodup_cons]at hn
  rw[List.filter_cons_of_neg,ih hn.2]
  intro k
  exact hn.1 (h.subset (by simpa using k))
 |@cons_cons a l x h ih=>
  rw[List.nodup_cons]at hn
  rw[List.filter_cons_of_pos (by simp)]
  congr 1
  have:l.filter (fun n=>(x::a).contains n)=l.filter (fun n=>a.contains n):=by
   apply List.filter_congr
   intro y hy
   have:y≠x:=by rintro rfl;exact hn.1 hy
   simp[this]
  rw[this,ih hn.2]
theorem FB {row:Row} {p:Patch} (ok:AOk (row++[p])) (hn:(nms (row++[p])).Nodup):
  ∃r,Vapatc.picked (row++[p]) [p.name]=some (bf row.reverse [p],r)/\Q (row++[p]) (bf row.reverse [p]++r)/\KY p.name (bf row.reverse [p]):=by
 obtain ⟨d,q,ho,hs,-⟩:=K0 (n:=p.name) (l:=row.reverse) (b:=[p]) (JT p) (by simpa using hn) ⟨[],by simp[nms]⟩
 rw[List.reverse_reverse]at q hs
 have e:=SN (post:=[]) ok hn
 have hcl:Vapatc.closure (row++[p]) [p.name]=nms (bf row.reverse [p]):=by
  rw[<-filter_sublist hs hn,e]
  unfold Vapatc.closure
  rw[DH]
  apply List.filter_congr
  intro n _
  simp[Bool.or_comm]
 have ok2:=AOk.Q q ok
 obtain ⟨r,e1,q1⟩:=UX q.symm ok2 (q.nodup hn) (M9 ok2)
 refine ⟨r,?_,q.trans (q1.append_left _),ho⟩
 rw[Pk,hcl,e1]
end Ps
end
section
namespace Ps
open VapatBase
open Vapatc (Patch Row)
variable {K:Nat->Prop} {B:Nat->Row}
def Bc (X Y:Row):List Nat:=(nms X).filter (fun n=>(nms Y).contains n)
def jn (X Y:Row):Option Row:=(Vapate.takeFront (Bc X Y) X).bind fun x=>(Vapate.takeFront (Bc X Y) Y).bind fun y=>
 (rc (turnR x.2) y.2).map fun m=>x.1++(x.2++m.1)
theorem Qc (W:World K B) {X Y:Row} (hX:Con K B X) (hY:Con K B Y) (ok:AOk X):
  Vapatc.closure X ((Vapatc.namesOf X).filter (Vapatc.namesOf Y).contains)=Bc X Y:=by
 unfold Vapatc.closure Bc
 rw[DH,DH]
 apply List.filter_congr
 intro n hn
 rw[Bool.eq_iff_iff]
 simp only[Bool.or_eq_true,List.contains_iff_mem,List.mem_filter,List.any_eq_true]
 constructor
 ·rintro (h|⟨m,⟨h1,h2⟩,h3⟩)
  ·exact h.2
  ·exact hY.sub h2 n (hX.needs_sub W ok h1 n h3)
 ·intro h
  exact Or.inl ⟨hn,h⟩
theorem NU (W:World K B) {X Y x y rx ry:Row} {ns:List Nat} (hX:Con K B X) (hY:Con K B Y) (okX:AOk X) (okY:AOk Y)
  (e1:Vapate.takeFront ns X=some (x,rx)) (e2:Vapate.takeFront ns Y=some (y,ry)):x=y:=by
 obtain ⟨q1,n1⟩:=C3 okX hX.1 e1
 obtain ⟨q2,n2⟩:=C3 okY hY.1 e2
 have c1:=(hX.Q q1).prefix W
 have c2:=(hY.Q q2).prefix W
 exact TH (Con.uniq W _ rfl c1 c2 (by rw[n1,n2];intro n;exact Iff.rfl)) c1.1 (by rw[n1,n2])
theorem Vd {a b:Row} (oa:AOk a) (ob:AOk b):(Vapatd.rowsMerged (Vapatc.stepsOf a) (Vapatc.stepsOf b)).map (fun m=>Vapatc.named (nms b) m.1)=(rc (turnR a) b).map fun m=>m.1:=by
 unfold Vapatd.rowsMerged
 rw[<-Qg]
 have:=Wo (AOk.turnR oa) ob
 cases hc:Vapatb.rowsCommuted (Vapatc.stepsOf (turnR a)) (Vapatc.stepsOf b) with
 |none=>simp[this.2 hc]
 |some w=>
  obtain ⟨x,y⟩:=w
  simp[(this.1 _ _ hc).1]
theorem Pt (W:World K B) {X Y:Row} (hX:Con K B X) (hY:Con K B Y) (okX:AOk X) (okY:AOk Y):Vapate.joined X Y=jn X Y:=by
 unfold Vapate.joined jn
 rw[Pk,Qc W hX hY okX]
 cases h1:Vapate.takeFront (Bc X Y) X with
 |none=>rfl
 |some x=>
  obtain ⟨x,rx⟩:=x
  obtain ⟨q1,n1⟩:=C3 okX hX.1 h1
  simp only[Option.bind_some]
  rw[DH,n1]
  cases h2:Vapate.takeFront (Bc X Y) Y with
  |none=>rfl
  |some y=>
   obtain ⟨y,ry⟩:=y
   have:=NU W hX hY okX okY h1 h2
   subst this
   simp only[Option.bind_some]
   rw[if_pos trivial]
   have o1:=(AOk.append.1 (AOk.Q q1 okX)).2
   obtain ⟨q2,n2⟩:=C3 okY hY.1 h2
   have o2:=(AOk.append.1 (AOk.Q q2 okY)).2
   have:=Vd o1 o2
   rw[DH]
   cases h3:Vapatd.rowsMerged (Vapatc.stepsOf rx) (Vapatc.stepsOf ry) with
   |none=>
    rw[h3]at this
    cases h4:rc (turnR rx) ry with
    |none=>rfl
    |some m=>rw[h4]at this;simp at this
   |some m=>
    rw[h3]at this
    cases h4:rc (turnR rx) ry with
    |none=>rw[h4]at this;simp at this
    |some m'=>
     rw[h4]at this
     simp at this
     simp[this]
theorem NL (W:World K B) {X Y J:Row} (hX:Con K B X) (hY:Con K B Y) (okX:AOk X) (okY:AOk Y) (h:jn X Y=some J):
  Con K B J/\AOk J/\(∀n,n∈nms J↔n∈nms X\/n∈nms Y)/\Ub X Y/\(∃s,Ps.Q J (X++s))/\∃s,Ps.Q J (Y++s):=by
 simp only[jn,Option.bind_eq_some_iff,Option.map_eq_some_iff]at h
 obtain ⟨⟨x,rx⟩,h1,⟨y,ry⟩,h2,⟨m,l⟩,h3,h4⟩:=h
 have:=NU W hX hY okX okY h1 h2
 subst this
 obtain ⟨q1,n1⟩:=C3 okX hX.1 h1
 obtain ⟨q2,n2⟩:=C3 okY hY.1 h2
 have inv:=SJ h3
 rw[T3]at inv
 obtain ⟨q3,n3,n4⟩:=Cu inv
 have n5:=(Cu h3).2.1
 simp only at h4
 subst h4
 have hq:Ps.Q (X++m) (Y++turnR l):=by
  have a1:=q1.append_right m
  have a2:=q3.append_left x
  have a3:=q2.append_right (turnR l)
  rw[List.append_assoc]at a1 a3
  exact a1.trans (a2.trans a3.symm)
 have hry:∀n,n∈nms ry->n∈nms Y/\n∉nms X:=by
  intro n hn
  have hy:n∈nms Y:=by rw[q2.mem,AO];exact List.mem_append_right _ hn
  refine ⟨hy,fun hx=>?_⟩
  have:n∈nms x:=by
   rw[n2]
   exact List.mem_filter.2 ⟨hx,by simpa using hy⟩
  exact (Ac (q2.nodup hY.1)).2.2 n this hn
 have hrx:∀n,n∈nms rx->n∈nms X:=by
  intro n hn
  rw[q1.mem,AO];exact List.mem_append_right _ hn
 have hnd:(nms (X++m)).Nodup:=by
  rw[AO,List.nodup_append]
  refine ⟨hX.1,by rw[n5];exact (Ac (q2.nodup hY.1)).2.1,?_⟩
  rintro a ha b hb rfl
  rw[n5]at hb
  exact (hry a hb).2 ha
 have hm:∀n∈nms m,n∈nms Y:=fun n hn=>by rw[n5]at hn;exact (hry n hn).1
 have hcon:Con K B (X++m):=Con.ub hX hY hq hnd hm
 have hJ:Ps.Q (X++m) (x++(rx++m)):=by
  have a1:=q1.append_right m
  rw[List.append_assoc]at a1
  exact a1
 have okm:AOk m:=by
  have o1:=(AOk.append.1 (AOk.Q q1 okX)).2
  have o2:=(AOk.append.1 (AOk.Q q2 okY)).2
  have:=AOk.Q (Cu h3).1 (AOk.append.2 ⟨AOk.turnR o1,o2⟩)
  exact (AOk.append.1 this).1
 refine ⟨hcon.Q hJ,AOk.Q hJ (AOk.append.2 ⟨okX,okm⟩),fun n=>?_,⟨m,turnR l,hq,hnd,hm,?_⟩,⟨m,hJ.symm⟩,⟨turnR l,hJ.symm.trans hq⟩⟩
 ·rw[<-hJ.mem,AO,List.mem_append]
  constructor
  ·rintro (k|k)
   ·exact Or.inl k
   ·exact Or.inr (hm n k)
  ·rintro (k|k)
   ·exact Or.inl k
   ·have:n∈nms (X++m):=by rw[hq.mem,AO];exact List.mem_append_left _ k
    rwa [AO,List.mem_append]at this
 ·intro k hk
  rw[n4]at hk
  exact hrx k hk
theorem PV (W:World K B) {X Y:Row} (hX:Con K B X) (hY:Con K B Y) (okX:AOk X) (okY:AOk Y) (h:Ub X Y):∃J,jn X Y=some J:=by
 obtain ⟨s,s',q,hn,h1,h2⟩:=h
 have hn':=q.nodup hn
 obtain ⟨f1,r1,e1,-,-⟩:=EH q.symm (BI hn')
 obtain ⟨f,r,f2,e2,-⟩:=Cf e1
 obtain ⟨qX,nf,nr⟩:=C1 e2
 have hf:nms f=Bc X Y:=nf
 have okXr:=AOk.Q qX okX
 obtain ⟨rx,t1,qx⟩:=UX qX.symm okXr (qX.nodup hX.1) (M9 okXr)
 rw[hf]at t1
 obtain ⟨g1,r3,e3,-,-⟩:=EH q (BI hn)
 obtain ⟨g,r',g2,e4,-⟩:=Cf e3
 obtain ⟨qY,ng,nr'⟩:=C1 e4
 have cf:=(hX.Q qX).prefix W
 have cg:=(hY.Q qY).prefix W
 have qfg:Ps.Q f g:=Con.uniq W _ rfl cf cg (by
  intro n
  rw[nf,ng,List.mem_filter,List.mem_filter,mem_iff,mem_iff]
  exact ⟨fun h=>⟨h.2,h.1⟩,fun h=>⟨h.2,h.1⟩⟩)
 have qY':Ps.Q Y (f++r'):=qY.trans (qfg.symm.append_right r')
 have okYr:=AOk.Q qY' okY
 obtain ⟨ry,t2,qy⟩:=UX qY'.symm okYr (qY'.nodup hY.1) (M9 okYr)
 rw[hf]at t2
 have q4:Ps.Q (f++(rx++s)) (f++(ry++s')):=by
  have a1:=(qX.trans (qx.append_left f)).append_right s
  have a2:=(qY'.trans (qy.append_left f)).append_right s'
  rw[List.append_assoc]at a1 a2
  exact a1.symm.trans (q.trans a2)
 have hn4:(nms (f++(rx++s))).Nodup:=by
  have a1:=(qX.trans (qx.append_left f)).append_right s
  rw[List.append_assoc]at a1
  exact a1.nodup hn
 have q5:=(NJ q4 hn4 (fun n=>Iff.rfl)).2
 have hn5:=(Ac hn4).2.1
 have mry:∀n,n∈nms ry↔n∈nms Y/\n∉nms X:=by
  intro n
  rw[<-qy.mem,nr',List.mem_filter]
  simp only[Bool.not_eq_true',BW]
 have mrx:∀n,n∈nms rx↔n∈nms X/\n∉nms Y:=by
  intro n
  rw[<-qx.mem,nr,List.mem_filter]
  simp only[Bool.not_eq_true',BW]
 have ms:∀n∈nms s,n∈nms ry:=fun n hs=>(mry n).2 ⟨h1 n hs,fun hx=>(Ac hn).2.2 n hx hs⟩
 have ho:∀n∈nms rx,mem (nms ry) n=false:=fun n hx=>BW.2 fun hy=>((mry n).1 hy).2 ((mrx n).1 hx).1
 obtain ⟨a,b,e5,q6,-⟩:=EH q5.symm (BI (q5.nodup hn5))
 have e6:=(UH (fun n hs=>mem_iff.2 (ms n hs)) ho).1 e5
 have e7:=SJ e6
 obtain ⟨a',e8,-⟩:=Y3 q6.symm e7
 exact ⟨f++(rx++a'),by simp[jn,t1,t2,e8]⟩
end Ps
end
section
namespace Ps
open VapatBase
open Vapatc (Patch Row)
theorem B1 {c d:List Nat} {a:Nat} {o n:List Nat}:spliced c a o n=some d↔∃l r,c=l++(o++r)/\l.length=a/\d=l++(n++r):=by
 unfold spliced
 constructor
 ·intro h
  split at h
  next k=>
   cases h
   refine ⟨c.take a,c.drop (a+o.length),?_,by simp[k.1],rfl⟩
   have e:c.drop a=o++c.drop (a+o.length):=by
    conv=>lhs;rw[<-List.take_append_drop o.length (c.drop a)]
    rw[k.2,List.drop_drop]
   rw[<-e,List.take_append_drop]
  next=>cases h
 ·rintro ⟨l,r,rfl,rfl,rfl⟩
  rw[if_pos (by simp)]
  simp
def apI (c:List Nat):In->Option (List Nat)
 |.h a o n=>spliced c a o n
 |.s x y=>some (swapAll x y c)
theorem De (x y:Nat) (l m:List Nat):swapAll x y (l++m)=swapAll x y l++swapAll x y m:=by simp[swapAll]
theorem YA {c d e:List Nat} {a b:Nat} {o n u v:List Nat} {q' p':In} (h1:spliced c a o n=some d) (h2:spliced d b u v=some e)
  (h:ci (.h a o n) (.h b u v)=some (q',p')):∃d',apI c q'=some d'/\apI d' p'=some e:=by
 obtain ⟨l,r,rfl,rfl,rfl⟩:=B1.1 h1
 obtain ⟨l2,r2,e2,rfl,rfl⟩:=B1.1 h2
 rcases Dc h with ⟨k,rfl,rfl⟩|⟨k,rfl,rfl⟩
 ·have:∃m,l2=l++(n++m)/\r=m++(u++r2):=by
   have e3:(l++n)++r=l2++(u++r2):=by rw[List.append_assoc];exact e2
   rcases List.append_eq_append_iff.1 e3 with ⟨m,e4,e5⟩|⟨m,e4,e5⟩
   ·exact ⟨m,by rw[e4,List.append_assoc],e5⟩
   ·exfalso
    have:=congrArg List.length e4
    simp at this
    omega
  obtain ⟨m,rfl,rfl⟩:=this
  refine ⟨l++(o++(m++(v++r2))),?_,?_⟩
  ·exact B1.2 ⟨l++(o++m),r2,by simp,by simp;omega,by simp⟩
  ·exact B1.2 ⟨l,m++(v++r2),by simp,rfl,by simp⟩
 ·have:∃m,l=l2++(u++m)/\r2=m++(n++r):=by
   have e3:l++(n++r)=(l2++u)++r2:=by rw[List.append_assoc];exact e2
   rcases List.append_eq_append_iff.1 e3.symm with ⟨m,e4,e5⟩|⟨m,e4,e5⟩
   ·exact ⟨m,by rw[e4,List.append_assoc],e5⟩
   ·exfalso
    have:=congrArg List.length e4
    simp at this
    omega
  obtain ⟨m,rfl,rfl⟩:=this
  refine ⟨l2++(v++(m++(o++r))),?_,?_⟩
  ·exact B1.2 ⟨l2,m++(o++r),by simp,rfl,by simp⟩
  ·exact B1.2 ⟨l2++(v++m),r,by simp,by simp;omega,by simp⟩
theorem WB {i j i' j':In} {c d e:List Nat} (h1:apI c i=some d) (h2:apI d j=some e) (h:ci i j=some (j',i')):∃d',apI c j'=some d'/\apI d' i'=some e:=by
 cases i with
 |h a o n=>
  cases j with
  |h b u v=>exact YA h1 h2 h
  |s x y=>
   obtain ⟨l,r,rfl,rfl,rfl⟩:=B1.1 h1
   simp[apI]at h2
   subst h2
   cases h
   refine ⟨_,rfl,?_⟩
   exact B1.2 ⟨swapAll x y l,swapAll x y r,by simp[De],by simp[AR],by simp[De]⟩
 |s x y=>
  simp[apI]at h1
  subst h1
  cases j with
  |h b u v=>
   cases h
   obtain ⟨l,r,e1,e2,rfl⟩:=B1.1 h2
   have e3:c=swapAll x y l++(swapAll x y u++swapAll x y r):=by
    rw[<-De,<-De,<-e1,CY]
   refine ⟨swapAll x y l++(swapAll x y v++swapAll x y r),B1.2 ⟨swapAll x y l,swapAll x y r,e3,by rw[AR,e2],rfl⟩,?_⟩
   simp[apI,De,CY]
  |s u v=>
   obtain ⟨k,rfl,rfl⟩:=Dg h
   simp[apI]at h2
   subst h2
   exact ⟨_,rfl,by simp[apI,GB k]⟩
theorem XQ {i:In} {c d:List Nat} (h:apI c i=some d):apI d (ti i)=some c:=by
 cases i with
 |h a o n=>
  obtain ⟨l,r,rfl,rfl,rfl⟩:=B1.1 h
  exact B1.2 ⟨l,r,rfl,rfl,rfl⟩
 |s x y=>
  simp[apI]at h
  subst h
  simp[ti,apI,CY]
abbrev Fn:=Nat->Option (List Nat)
def upd (t:Fn) (f:Nat) (v:Option (List Nat)):Fn:=fun g=>if g=f then v else t g
def apS (t:Fn):S->Option Fn
 |.ins f i=>match t f with
  |none=>none
  |some c=>match apI c i with
   |none=>none
   |some d=>some (upd t f (some d))
 |.add f=>match t f with
  |none=>some (upd t f (some []))
  |some _=>none
 |.rem f=>if t f=some [] then some (upd t f none) else none
 |.mov f g=>match t f,t g with
  |some c,none=>some (upd (upd t f none) g (some c))
  |_,_=>none
theorem B2 {t u:Fn} {f:Nat} {i:In}:apS t (.ins f i)=some u↔∃c d,t f=some c/\apI c i=some d/\u=upd t f (some d):=by
 simp only[apS]
 constructor
 ·intro h
  split at h
  ·cases h
  next c e=>
   split at h
   ·cases h
   next d e2=>cases h;exact ⟨c,d,e,e2,rfl⟩
 ·rintro ⟨c,d,e1,e2,rfl⟩
  simp[e1,e2]
theorem CT {t u:Fn} {f:Nat}:apS t (.add f)=some u↔t f=none/\u=upd t f (some []):=by
 simp only[apS]
 constructor
 ·intro h
  split at h
  next e=>cases h;exact ⟨e,rfl⟩
  ·cases h
 ·rintro ⟨e1,rfl⟩
  simp[e1]
theorem CU {t u:Fn} {f:Nat}:apS t (.rem f)=some u↔t f=some []/\u=upd t f none:=by
 simp only[apS]
 constructor
 ·intro h
  split at h
  next e=>cases h;exact ⟨e,rfl⟩
  ·cases h
 ·rintro ⟨e1,rfl⟩
  simp[e1]
theorem C4 {t u:Fn} {f g:Nat}:apS t (.mov f g)=some u↔∃c,t f=some c/\t g=none/\u=upd (upd t f none) g (some c):=by
 simp only[apS]
 constructor
 ·intro h
  split at h
  next c e1 e2=>cases h;exact ⟨c,e1,e2,rfl⟩
  ·cases h
 ·rintro ⟨c,e1,e2,rfl⟩
  simp[e1,e2]
theorem A4 (t:Fn) (f:Nat) (v:Option (List Nat)):upd t f v f=v:=by simp[upd]
theorem A8 {t:Fn} {f g:Nat} {v:Option (List Nat)} (h:¬g=f):upd t f v g=t g:=by simp[upd,h]
theorem Dx {t:Fn} {f g:Nat} {v w:Option (List Nat)} (h:¬f=g):upd (upd t f v) g w=upd (upd t g w) f v:=by
 funext k
 simp only[upd]
 grind
theorem W5 {p q q' p':S} {t u v:Fn} (hp:okS p) (hq:okS q) (h1:apS t p=some u) (h2:apS u q=some v) (h:cS p q=some (q',p')):∃w,apS t q'=some w/\apS w p'=some v:=by
 cases p with
 |ins f i=>
  cases q with
  |ins g j=>
   obtain ⟨c,d,e1,e2,rfl⟩:=B2.1 h1
   obtain ⟨c2,d2,e3,e4,rfl⟩:=B2.1 h2
   rcases Ei h with ⟨k,rfl,rfl⟩|⟨rfl,j',i',hc,rfl,rfl⟩
   ·rw[A8 (Ne.symm k)]at e3
    exact ⟨_,B2.2 ⟨c2,d2,e3,e4,rfl⟩,B2.2 ⟨c,d,by rw[A8 k];exact e1,e2,Dx k⟩⟩
   ·rw[A4]at e3
    cases e3
    obtain ⟨d',a1,a2⟩:=WB e2 e4 hc
    refine ⟨_,B2.2 ⟨c,d',e1,a1,rfl⟩,B2.2 ⟨d',d2,A4 _ _ _,a2,?_⟩⟩
    funext k;simp only[upd];grind
  |add g=>
   obtain ⟨c,d,e1,e2,rfl⟩:=B2.1 h1
   obtain ⟨e3,rfl⟩:=CT.1 h2
   simp only[cS]at h
   split at h
   ·cases h
   next k=>
    cases h
    rw[A8 (Ne.symm k)]at e3
    exact ⟨_,CT.2 ⟨e3,rfl⟩,B2.2 ⟨c,d,by rw[A8 k];exact e1,e2,Dx k⟩⟩
  |rem g=>
   obtain ⟨c,d,e1,e2,rfl⟩:=B2.1 h1
   obtain ⟨e3,rfl⟩:=CU.1 h2
   simp only[cS]at h
   split at h
   ·cases h
   next k=>
    cases h
    rw[A8 (Ne.symm k)]at e3
    exact ⟨_,CU.2 ⟨e3,rfl⟩,B2.2 ⟨c,d,by rw[A8 k];exact e1,e2,Dx k⟩⟩
  |mov g l=>
   obtain ⟨c,d,e1,e2,rfl⟩:=B2.1 h1
   obtain ⟨c2,e3,e4,rfl⟩:=C4.1 h2
   simp only[okS]at hq
   simp only[cS]at h
   split at h
   next k=>
    subst k
    cases h
    rw[A4]at e3
    cases e3
    rw[A8 (Ne.symm hq)]at e4
    refine ⟨_,C4.2 ⟨c,e1,e4,rfl⟩,B2.2 ⟨c,d,A4 _ _ _,e2,?_⟩⟩
    funext k;simp only[upd];grind
   next k=>
    split at h
    ·cases h
    next k2=>
     cases h
     rw[A8 (Ne.symm k)]at e3
     rw[A8 (Ne.symm k2)]at e4
     refine ⟨_,C4.2 ⟨c2,e3,e4,rfl⟩,B2.2 ⟨c,d,by rw[A8 k2,A8 k];exact e1,e2,?_⟩⟩
     funext k;simp only[upd];grind
 |add f=>
  obtain ⟨e1,rfl⟩:=CT.1 h1
  cases q with
  |ins g j=>
   obtain ⟨c2,d2,e3,e4,rfl⟩:=B2.1 h2
   simp only[cS]at h
   split at h
   ·cases h
   next k=>
    cases h
    rw[A8 (Ne.symm k)]at e3
    exact ⟨_,B2.2 ⟨c2,d2,e3,e4,rfl⟩,CT.2 ⟨by rw[A8 k];exact e1,Dx k⟩⟩
  |add g=>
   obtain ⟨e3,rfl⟩:=CT.1 h2
   simp only[cS]at h
   split at h
   ·cases h
   next k=>
    cases h
    rw[A8 (Ne.symm k)]at e3
    exact ⟨_,CT.2 ⟨e3,rfl⟩,CT.2 ⟨by rw[A8 k];exact e1,Dx k⟩⟩
  |rem g=>
   obtain ⟨e3,rfl⟩:=CU.1 h2
   simp only[cS]at h
   split at h
   ·cases h
   next k=>
    cases h
    rw[A8 (Ne.symm k)]at e3
    exact ⟨_,CU.2 ⟨e3,rfl⟩,CT.2 ⟨by rw[A8 k];exact e1,Dx k⟩⟩
  |mov g l=>
   obtain ⟨c2,e3,e4,rfl⟩:=C4.1 h2
   simp only[cS]at h
   split at h
   ·cases h
   next k=>
    cases h
    have k1:¬f=g:=fun e=>k (Or.inl e)
    have k2:¬f=l:=fun e=>k (Or.inr e)
    rw[A8 (Ne.symm k1)]at e3
    rw[A8 (Ne.symm k2)]at e4
    refine ⟨_,C4.2 ⟨c2,e3,e4,rfl⟩,CT.2 ⟨by rw[A8 k2,A8 k1];exact e1,?_⟩⟩
    funext k;simp only[upd];grind
 |rem f=>
  obtain ⟨e1,rfl⟩:=CU.1 h1
  cases q with
  |ins g j=>
   obtain ⟨c2,d2,e3,e4,rfl⟩:=B2.1 h2
   simp only[cS]at h
   split at h
   ·cases h
   next k=>
    cases h
    rw[A8 (Ne.symm k)]at e3
    exact ⟨_,B2.2 ⟨c2,d2,e3,e4,rfl⟩,CU.2 ⟨by rw[A8 k];exact e1,Dx k⟩⟩
  |add g=>
   obtain ⟨e3,rfl⟩:=CT.1 h2
   simp only[cS]at h
   split at h
   ·cases h
   next k=>
    cases h
    rw[A8 (Ne.symm k)]at e3
    exact ⟨_,CT.2 ⟨e3,rfl⟩,CU.2 ⟨by rw[A8 k];exact e1,Dx k⟩⟩
  |rem g=>
   obtain ⟨e3,rfl⟩:=CU.1 h2
   simp only[cS]at h
   split at h
   ·cases h
   next k=>
    cases h
    rw[A8 (Ne.symm k)]at e3
    exact ⟨_,CU.2 ⟨e3,rfl⟩,CU.2 ⟨by rw[A8 k];exact e1,Dx k⟩⟩
  |mov g l=>
   obtain ⟨c2,e3,e4,rfl⟩:=C4.1 h2
   simp only[cS]at h
   split at h
   ·cases h
   next k=>
    cases h
    have k1:¬f=g:=fun e=>k (Or.inl e)
    have k2:¬f=l:=fun e=>k (Or.inr e)
    rw[A8 (Ne.symm k1)]at e3
    rw[A8 (Ne.symm k2)]at e4
    refine ⟨_,C4.2 ⟨c2,e3,e4,rfl⟩,CU.2 ⟨by rw[A8 k2,A8 k1];exact e1,?_⟩⟩
    funext k;simp only[upd];grind
 |mov f m=>
  obtain ⟨c,e1,e2,rfl⟩:=C4.1 h1
  simp only[okS]at hp
  cases q with
  |ins g j=>
   obtain ⟨c2,d2,e3,e4,rfl⟩:=B2.1 h2
   simp only[cS]at h
   split at h
   next k=>
    subst k
    cases h
    rw[A4]at e3
    cases e3
    refine ⟨_,B2.2 ⟨c,d2,e1,e4,rfl⟩,C4.2 ⟨d2,A4 _ _ _,by rw[A8 (Ne.symm hp)];exact e2,?_⟩⟩
    funext k;simp only[upd];grind
   next k=>
    split at h
    ·cases h
    next k2=>
     cases h
     rw[A8 (Ne.symm k),A8 (Ne.symm k2)]at e3
     refine ⟨_,B2.2 ⟨c2,d2,e3,e4,rfl⟩,C4.2 ⟨c,by rw[A8 k2];exact e1,by rw[A8 k];exact e2,?_⟩⟩
     funext k;simp only[upd];grind
  |add g=>
   obtain ⟨e3,rfl⟩:=CT.1 h2
   simp only[cS]at h
   split at h
   ·cases h
   next k=>
    cases h
    have k1:¬f=g:=fun e=>k (Or.inl e)
    have k2:¬m=g:=fun e=>k (Or.inr e)
    rw[A8 (Ne.symm k2),A8 (Ne.symm k1)]at e3
    refine ⟨_,CT.2 ⟨e3,rfl⟩,C4.2 ⟨c,by rw[A8 k1];exact e1,by rw[A8 k2];exact e2,?_⟩⟩
    funext k;simp only[upd];grind
  |rem g=>
   obtain ⟨e3,rfl⟩:=CU.1 h2
   simp only[cS]at h
   split at h
   ·cases h
   next k=>
    cases h
    have k1:¬f=g:=fun e=>k (Or.inl e)
    have k2:¬m=g:=fun e=>k (Or.inr e)
    rw[A8 (Ne.symm k2),A8 (Ne.symm k1)]at e3
    refine ⟨_,CU.2 ⟨e3,rfl⟩,C4.2 ⟨c,by rw[A8 k1];exact e1,by rw[A8 k2];exact e2,?_⟩⟩
    funext k;simp only[upd];grind
  |mov g l=>
   obtain ⟨c2,e3,e4,rfl⟩:=C4.1 h2
   simp only[cS]at h
   split at h
   ·cases h
   next k=>
    cases h
    have k1:¬f=g:=fun e=>k (Or.inl e)
    have k2:¬m=g:=fun e=>k (Or.inr (Or.inl e))
    have k3:¬f=l:=fun e=>k (Or.inr (Or.inr (Or.inl e)))
    have k4:¬m=l:=fun e=>k (Or.inr (Or.inr (Or.inr e)))
    rw[A8 (Ne.symm k2),A8 (Ne.symm k1)]at e3
    rw[A8 (Ne.symm k4),A8 (Ne.symm k3)]at e4
    refine ⟨_,C4.2 ⟨c2,e3,e4,rfl⟩,C4.2 ⟨c,by rw[A8 k3,A8 k1];exact e1,by rw[A8 k4,A8 k2];exact e2,?_⟩⟩
    funext k;simp only[upd];grind
theorem X1 {p:S} {t u:Fn} (hp:okS p) (h:apS t p=some u):apS u (tS p)=some t:=by
 cases p with
 |ins f i=>
  obtain ⟨c,d,e1,e2,rfl⟩:=B2.1 h
  refine B2.2 ⟨d,c,A4 _ _ _,XQ e2,?_⟩
  funext k;simp only[upd];grind
 |add f=>
  obtain ⟨e1,rfl⟩:=CT.1 h
  refine CU.2 ⟨A4 _ _ _,?_⟩
  funext k;simp only[upd];grind
 |rem f=>
  obtain ⟨e1,rfl⟩:=CU.1 h
  refine CT.2 ⟨A4 _ _ _,?_⟩
  funext k;simp only[upd];grind
 |mov f g=>
  obtain ⟨c,e1,e2,rfl⟩:=C4.1 h
  simp only[okS]at hp
  refine C4.2 ⟨c,A4 _ _ _,by rw[A8 hp,A4],?_⟩
  funext k;simp only[upd];grind
end Ps
end
section
namespace Ps
open VapatBase
open Vapatc (Patch Row)
def Srt (t:Tree):Prop:=(t.map fun x=>x.1).Pairwise (·<·)
theorem Ag (x:Nat×Tokens) (t:Tree) (g:Nat):fileIn (x::t) g=if x.1=g then some x.2 else fileIn t g:=by
 unfold fileIn
 rw[List.find?_cons]
 by_cases h:x.1=g
 ·simp[h]
 ·have e:(x.1==g)=false:=by simpa using h
  rw[e,if_neg h]
theorem BP (f:Nat) (c:Tokens):∀(t:Tree) (g:Nat),fileIn (putFile f c t) g=if g=f then some c else fileIn t g
 |[],g=>by
  simp only[putFile,Ag]
  by_cases h:f=g
  ·subst h;simp
  ·simp[h,Ne.symm h,fileIn]
 |x::t,g=>by
  simp only[putFile]
  split
  ·rw[Ag]
   by_cases h:f=g
   ·subst h;simp
   ·simp[h,Ne.symm h]
  ·split
   next h1 h2=>
    subst h2
    rw[Ag,Ag]
    by_cases h:x.1=g
    ·subst h;simp
    ·simp[h,Ne.symm h]
   next h1 h2=>
    rw[Ag,BP f c t g,Ag]
    by_cases h:x.1=g
    ·subst h
     simp[Ne.symm h2]
    ·simp[h]
theorem DP (f:Nat):∀(t:Tree) (g:Nat),fileIn (dropFile f t) g=if g=f then none else fileIn t g
 |[],g=>by simp[dropFile,fileIn]
 |x::t,g=>by
  have ih:=DP f t g
  unfold dropFile at ih ⊢
  rw[List.filter_cons]
  by_cases h:x.1=f
  ·rw[if_neg (by simp[h]),ih,Ag]
   by_cases k:g=f
   ·simp[k]
   ·have:¬x.1=g:=fun e=>k (by rw[<-e,h])
    simp[k,this]
  ·rw[if_pos (by simp[h]),Ag,ih,Ag]
   by_cases k:x.1=g
   ·subst k
    simp[h]
   ·simp[k]
theorem TQ {f:Nat} {c:Tokens}:∀{t:Tree} {n:Nat},n∈(putFile f c t).map (fun x=>x.1)->n=f\/n∈t.map fun x=>x.1
 |[],n,h=>by simp[putFile]at h;exact Or.inl h
 |x::t,n,h=>by
  simp only[putFile]at h
  split at h
  ·simp at h ⊢;rcases h with h|h|h
   ·exact Or.inl h
   ·exact Or.inr (Or.inl h)
   ·exact Or.inr (Or.inr h)
  ·split at h
   ·simp at h ⊢
    rcases h with h|h
    ·exact Or.inl h
    ·exact Or.inr (Or.inr h)
   ·rw[List.map_cons,List.mem_cons]at h
    rcases h with h|h
    ·exact Or.inr (by simp[h])
    ·rcases TQ h with h|h
     ·exact Or.inl h
     ·exact Or.inr (List.mem_cons_of_mem _ h)
theorem Jv {f:Nat} {c:Tokens}:∀{t:Tree},Srt t->Srt (putFile f c t)
 |[],_=>by simp[putFile,Srt]
 |x::t,h=>by
  unfold Srt at h ⊢
  rw[List.map_cons,List.pairwise_cons]at h
  simp only[putFile]
  split
  next k=>
   simp only[List.map_cons,List.pairwise_cons]
   refine ⟨?_,h.1,h.2⟩
   intro a ha
   rcases List.mem_cons.1 ha with rfl|ha
   ·exact k
   ·exact Nat.lt_trans k (h.1 a ha)
  ·split
   next k1 k2=>
    subst k2
    rw[List.map_cons,List.pairwise_cons]
    exact ⟨h.1,h.2⟩
   next k1 k2=>
    rw[List.map_cons,List.pairwise_cons]
    refine ⟨?_,Jv h.2⟩
    intro a ha
    rcases TQ ha with rfl|ha
    ·omega
    ·exact h.1 a ha
theorem S0 {f:Nat} {t:Tree} (h:Srt t):Srt (dropFile f t):=by
 unfold Srt dropFile at*
 exact List.Pairwise.sublist (List.Sublist.map _ List.filter_sublist) h
theorem Gu {t:Tree} {n:Nat} (h:∀m∈t.map (fun x=>x.1),n<m):fileIn t n=none:=by
 induction t with
 |nil=>rfl
 |cons x t ih=>
  rw[Ag]
  have:=h x.1 (by simp)
  rw[if_neg (by omega)]
  exact ih fun m hm=>h m (List.mem_cons_of_mem _ hm)
theorem PL:∀{t u:Tree},Srt t->Srt u->(∀g,fileIn t g=fileIn u g)->t=u
 |[],[],_,_,_=>rfl
 |[],y::u,_,_,h=>by
  have:=h y.1
  rw[Ag,if_pos rfl]at this
  simp[fileIn]at this
 |x::t,[],_,_,h=>by
  have:=h x.1
  rw[Ag,if_pos rfl]at this
  simp[fileIn]at this
 |x::t,y::u,ht,hu,h=>by
  unfold Srt at ht hu
  rw[List.map_cons,List.pairwise_cons]at ht hu
  have hxy:x.1=y.1:=by
   rcases Nat.lt_trichotomy x.1 y.1 with k|k|k
   ·exfalso
    have:=h x.1
    rw[Ag,if_pos rfl,Gu]at this
    ·cases this
    ·intro m hm
     rcases List.mem_cons.1 hm with rfl|hm
     ·exact k
     ·exact Nat.lt_trans k (hu.1 m hm)
   ·exact k
   ·exfalso
    have:=h y.1
    rw[Ag (x:=y),if_pos rfl,Gu]at this
    ·cases this
    ·intro m hm
     rcases List.mem_cons.1 hm with rfl|hm
     ·exact k
     ·exact Nat.lt_trans k (ht.1 m hm)
  have h2:x.2=y.2:=by
   have:=h x.1
   rw[Ag,if_pos rfl,Ag,if_pos hxy.symm]at this
   exact Option.some.inj this
  have:x=y:=Prod.ext hxy h2
  subst this
  congr 1
  refine PL ht.2 hu.2 fun g=>?_
  have:=h g
  rw[Ag,Ag]at this
  by_cases k:x.1=g
  ·subst k
   rw[Gu ht.1,Gu hu.1]
  ·simpa [k] using this
theorem Fb {t u:Tree} {p:Step} (h:applied t p=some u) (ht:Srt t):apS (fileIn t) (toS p)=some (fileIn u)/\Srt u:=by
 cases p with
 |hunk f a o n=>
  simp only[applied,Option.bind_eq_some_iff,Option.map_eq_some_iff]at h
  obtain ⟨c,e1,d,e2,rfl⟩:=h
  refine ⟨B2.2 ⟨c,d,e1,e2,?_⟩,Jv ht⟩
  funext g;rw[BP];rfl
 |swap f x y=>
  simp only[applied,Option.map_eq_some_iff]at h
  obtain ⟨c,e1,rfl⟩:=h
  refine ⟨B2.2 ⟨c,_,e1,rfl,?_⟩,Jv ht⟩
  funext g;rw[BP];rfl
 |add f=>
  simp only[applied]at h
  split at h
  next e=>
   cases h
   refine ⟨CT.2 ⟨e,?_⟩,Jv ht⟩
   funext g;rw[BP];rfl
  ·cases h
 |remove f=>
  simp only[applied]at h
  split at h
  next e=>
   cases h
   refine ⟨CU.2 ⟨e,?_⟩,S0 ht⟩
   funext g;rw[DP];rfl
  ·cases h
 |move f g=>
  simp only[applied]at h
  split at h
  next c e1 e2=>
   cases h
   refine ⟨C4.2 ⟨c,e1,e2,?_⟩,Jv (S0 ht)⟩
   funext k;rw[BP,DP];rfl
  ·cases h
theorem Uf {t:Tree} {p:Step} {w:Fn} (h:apS (fileIn t) (toS p)=some w) (ht:Srt t):∃u,applied t p=some u/\fileIn u=w/\Srt u:=by
 have key:∃u,applied t p=some u:=by
  cases p with
  |hunk f a o n=>
   obtain ⟨c,d,e1,e2,-⟩:=B2.1 h
   simp only[apI]at e2
   exact ⟨_,by simp only[applied,e1,Option.bind_some,e2,Option.map_some];rfl⟩
  |swap f x y=>
   obtain ⟨c,d,e1,e2,-⟩:=B2.1 h
   exact ⟨_,by simp only[applied,e1,Option.map_some];rfl⟩
  |add f=>
   obtain ⟨e1,-⟩:=CT.1 h
   exact ⟨_,by simp only[applied,e1];rfl⟩
  |remove f=>
   obtain ⟨e1,-⟩:=CU.1 h
   exact ⟨_,by simp only[applied,e1,if_true];rfl⟩
  |move f g=>
   obtain ⟨c,e1,e2,-⟩:=C4.1 h
   exact ⟨_,by simp only[applied,e1,e2];rfl⟩
 obtain ⟨u,hu⟩:=key
 obtain ⟨k1,k2⟩:=Fb hu ht
 rw[h]at k1
 exact ⟨u,hu,(Option.some.inj k1).symm,k2⟩
theorem Ru {p q q' p':Step} {t u v:Tree} (hp:Ok p) (hq:Ok q) (ht:Srt t) (h1:applied t p=some u) (h2:applied u q=some v) (h:commuted p q=some (q',p')):
  ∃w,applied t q'=some w/\applied w p'=some v:=by
 obtain ⟨a1,su⟩:=Fb h1 ht
 obtain ⟨a2,sv⟩:=Fb h2 su
 obtain ⟨w,b1,b2⟩:=W5 hp hq a1 a2 (IZ hp hq h)
 obtain ⟨x,e1,rfl,sx⟩:=Uf b1 ht
 obtain ⟨y,e2,e3,sy⟩:=Uf b2 sx
 have:y=v:=PL sy sv (fun g=>by rw[e3])
 subst this
 exact ⟨x,e1,e2⟩
theorem Sr {p:Step} {t u:Tree} (hp:Ok p) (ht:Srt t) (h:applied t p=some u):applied u (turned p)=some t:=by
 obtain ⟨a,su⟩:=Fb h ht
 have b:=X1 hp a
 rw[<-Dy]at b
 obtain ⟨w,e1,e2,e3⟩:=Uf b su
 have:w=t:=PL e3 ht (fun g=>by rw[e2])
 subst this
 exact e1
def app (t:Tree) (a:Row):Option Tree:=appliedAll t (Vapatc.stepsOf a)
theorem MG (t:Tree):app t []=some t:=rfl
theorem BR {t u:Tree} {p:Patch} {a:Row}:app t (p::a)=some u↔∃v,applied t p.step=some v/\app v a=some u:=by
 unfold app
 simp only[Vapatc.stepsOf,List.map_cons,appliedAll,Option.bind_eq_some_iff]
theorem BO {b:Row}:∀{a:Row} {t u:Tree},app t (a++b)=some u↔∃v,app t a=some v/\app v b=some u
 |[],t,u=>by
  rw[List.nil_append]
  constructor
  ·intro h;exact ⟨t,rfl,h⟩
  ·rintro ⟨v,h,h2⟩;cases h;exact h2
 |p::a,t,u=>by
  rw[List.cons_append,BR]
  constructor
  ·rintro ⟨v,e1,e2⟩
   obtain ⟨w,e3,e4⟩:=BO.1 e2
   exact ⟨w,BR.2 ⟨v,e1,e3⟩,e4⟩
  ·rintro ⟨w,e1,e2⟩
   obtain ⟨v,e3,e4⟩:=BR.1 e1
   exact ⟨v,e3,BO.2 ⟨w,e4,e2⟩⟩
theorem MK:∀{a:Row} {t u:Tree},Srt t->app t a=some u->Srt u
 |[],t,u,ht,h=>by cases h;exact ht
 |p::a,t,u,ht,h=>by
  obtain ⟨v,e1,e2⟩:=BR.1 h
  exact MK (Fb e1 ht).2 e2
theorem OV {a b:Row} (q:Q a b):∀{t u:Tree},Srt t->app t a=some u->app t b=some u:=by
 induction q with
 |refl a=>intro t u _ h;exact h
 |swap r hc=>
  intro t u ht h
  obtain ⟨v,e1,e2⟩:=BR.1 h
  obtain ⟨w,e3,e4⟩:=BR.1 e2
  obtain ⟨hp,hq,e,-⟩:=Bw.1 hc
  obtain ⟨x,k1,k2⟩:=Ru hp hq ht e1 e3 e
  exact BR.2 ⟨x,k1,BR.2 ⟨w,k2,e4⟩⟩
 |cons p _ ih=>
  intro t u ht h
  obtain ⟨v,e1,e2⟩:=BR.1 h
  exact BR.2 ⟨v,e1,ih (Fb e1 ht).2 e2⟩
 |trans _ _ ih1 ih2=>intro t u ht h;exact ih2 ht (ih1 ht h)
theorem Rf:∀{a:Row} {t u:Tree},AOk a->Srt t->app t a=some u->app u (turnR a)=some t
 |[],t,u,_,_,h=>by cases h;rfl
 |p::a,t,u,ok,ht,h=>by
  obtain ⟨v,e1,e2⟩:=BR.1 h
  obtain ⟨op,oa⟩:=AOk.cons.1 ok
  have sv:=(Fb e1 ht).2
  rw[KM]
  refine BO.2 ⟨v,Rf oa sv e2,BR.2 ⟨t,Sr op ht e1,rfl⟩⟩
variable {K:Nat->Prop} {B:Nat->Row}
theorem Y2 {t:Tree} (ht:Srt t) (W:World K B) {X Y J:Row} (hX:Con K B X) (hY:Con K B Y) (okX:AOk X) (okY:AOk Y) (h:jn X Y=some J)
  (fX:∃u,app t X=some u) (fY:∃u,app t Y=some u):∃u,app t J=some u:=by
 simp only[jn,Option.bind_eq_some_iff,Option.map_eq_some_iff]at h
 obtain ⟨⟨x,rx⟩,h1,⟨y,ry⟩,h2,⟨m,l⟩,h3,h4⟩:=h
 have:=NU W hX hY okX okY h1 h2
 subst this
 obtain ⟨q1,n1⟩:=C3 okX hX.1 h1
 obtain ⟨q2,n2⟩:=C3 okY hY.1 h2
 obtain ⟨u,fX⟩:=fX
 obtain ⟨w,fY⟩:=fY
 obtain ⟨t1,a1,a2⟩:=BO.1 (OV q1 ht fX)
 obtain ⟨t2,b1,b2⟩:=BO.1 (OV q2 ht fY)
 rw[a1]at b1
 cases b1
 have s1:=MK ht a1
 have su:=MK s1 a2
 have o1:=(AOk.append.1 (AOk.Q q1 okX)).2
 have k:=OV (Cu h3).1 su (BO.2 ⟨t1,Rf o1 s1 a2,b2⟩)
 obtain ⟨z,k1,-⟩:=BO.1 k
 simp only at h4
 subst h4
 exact ⟨z,BO.2 ⟨t1,a1,BO.2 ⟨u,a2,k1⟩⟩⟩
end Ps
end
section
namespace Ps
open VapatBase
def EQ (z:Int):Bool:=decide (0<=z)&&decide (z<=99)
theorem Aj (lo hi:Nat) (z:Int) (r:List Int):readNat lo hi (z::r)=if (lo:Int)<=z/\z<=(hi:Int) then some (z.toNat,r) else none:=rfl
theorem Ks:∀(k:Nat) (r:List Int),readTimes (readNat 0 99) k r=if k<=r.length/\(r.take k).all EQ=true then some ((r.take k).map Int.toNat,r.drop k) else none
 |0,r=>by simp[readTimes]
 |k+1,[]=>by simp[readTimes,readNat]
 |k+1,z::r=>by
  simp only[readTimes,Aj]
  by_cases h:(0:Int)<=z/\z<=99
  ·have h':((0:Nat):Int)<=z/\z<=((99:Nat):Int):=h
   rw[if_pos h']
   simp only[Option.bind_some]
   rw[Ks k r]
   by_cases g:k<=r.length/\(r.take k).all EQ=true
   ·rw[if_pos g,if_pos]
    ·simp
    ·simp only[List.length_cons,List.take_succ_cons,List.all_cons,Bool.and_eq_true]
     exact ⟨by omega,by simp[EQ,h.1,h.2],g.2⟩
   ·rw[if_neg g,if_neg]
    ·rfl
    ·simp only[List.length_cons,List.take_succ_cons,List.all_cons,Bool.and_eq_true]
     rintro ⟨a,b,c⟩
     exact g ⟨by omega,c⟩
  ·have h':¬(((0:Nat):Int)<=z/\z<=((99:Nat):Int)):=h
   rw[if_neg h',if_neg]
   ·rfl
   ·simp only[List.length_cons,List.take_succ_cons,List.all_cons,Bool.and_eq_true]
    rintro ⟨a,b,c⟩
    simp[EQ]at b
    exact h b
theorem Kr (m:Nat) (l:List Int):readTokens m l=match l with
  |[]=>none
  |z::r=>if (0:Int)<=z/\z<=(m:Int) then (if z.toNat<=r.length/\(r.take z.toNat).all EQ=true then some ((r.take z.toNat).map Int.toNat,r.drop z.toNat) else none) else none:=by
 cases l with
 |nil=>rfl
 |cons z r=>
  unfold readTokens readListed
  simp only[Aj]
  by_cases h:(0:Int)<=z/\z<=(m:Int)
  ·have h':((0:Nat):Int)<=z/\z<=(m:Int):=h
   rw[if_pos h',if_pos h]
   simp only[Option.bind_some]
   exact Ks _ _
  ·have h':¬(((0:Nat):Int)<=z/\z<=(m:Int)):=h
   rw[if_neg h',if_neg h]
   rfl
end Ps
namespace Ps
open VapatBase
theorem CC {m:Nat} {l r:List Int} {t:List Nat} (h:readTokens m l=some (t,r)):t.length<=m/\(∀x∈t,x<100)/\r=l.drop (1+t.length)/\1+t.length<=l.length:=by
 rw[Kr]at h
 cases l with
 |nil=>simp at h
 |cons z l=>
  simp only at h
  split at h
  next h1=>
   split at h
   next h2=>
    cases h
    have hl:((l.take z.toNat).map Int.toNat).length=z.toNat:=by simp;omega
    refine ⟨by rw[hl];omega,?_,?_,by rw[hl];simp;omega⟩
    ·intro x hx
     obtain ⟨y,hy,rfl⟩:=List.mem_map.1 hx
     have:=List.all_eq_true.1 h2.2 y hy
     simp[EQ]at this
     omega
    ·rw[hl,Nat.add_comm]
     rfl
   ·cases h
  ·cases h
theorem Mm {m:Nat} {t:List Nat} (h1:t.length<=m) (h2:∀x∈t,x<100):okTokens m t=true:=by
 simp only[okTokens,TOKENS,Bool.and_eq_true,decide_eq_true_eq,List.all_eq_true]
 exact ⟨h1,fun x hx=>decide_eq_true (h2 x hx)⟩
def F9 (ns:List Int):Option Step:=match ns with
 |_::f::a::r=>if (0<=f/\f<=9)/\(0<=a/\a<=1000) then (match readTokens 8 r with
  |none=>none
  |some (o,r3)=>match readTokens 8 r3 with
   |none=>none
   |some (n,r4)=>if r4=[]/\¬(o.length+n.length=0) then some (.hunk f.toNat a.toNat o n) else none) else none
 |_=>none
theorem OQ (r:List Int):whole readStep (0::r)=F9 (0::r):=by
 unfold whole readStep
 simp only[readPair]
 cases r with
 |nil=>simp[readNat,F9]
 |cons f r=>
  simp only[Aj]
  by_cases hf:(0:Int)<=f/\f<=9
  ·have hf':((0:Nat):Int)<=f/\f<=((NAMES - 1:Nat):Int):=hf
   rw[if_pos hf']
   simp only[Option.bind_some]
   cases r with
   |nil=>simp[readNat,F9]
   |cons a r=>
    simp only[Aj]
    by_cases ha:(0:Int)<=a/\a<=1000
    ·have ha':((0:Nat):Int)<=a/\a<=((PLACE:Nat):Int):=ha
     rw[if_pos ha']
     simp only[Option.bind_some,F9]
     rw[if_pos ⟨hf,ha⟩]
     cases h1:readTokens SIDE r with
     |none=>
      have h1':readTokens 8 r=none:=h1
      simp[h1']
     |some x=>
      obtain ⟨o,r3⟩:=x
      have h1':readTokens 8 r=some (o,r3):=h1
      simp only[h1',Option.bind_some]
      cases h2:readTokens SIDE r3 with
      |none=>
       have h2':readTokens 8 r3=none:=h2
       simp[h2']
      |some y=>
       obtain ⟨n,r4⟩:=y
       have h2':readTokens 8 r3=some (n,r4):=h2
       simp only[h2',Option.map_some,Option.bind_some]
       have k1:=CC h1'
       have k2:=CC h2'
       have hok:okStep (.hunk f.toNat a.toNat o n)=!(o.isEmpty&&n.isEmpty):=by
        simp only[okStep]
        rw[show (okTokens SIDE o)=true from Mm k1.1 k1.2.1,show (okTokens SIDE n)=true from Mm k2.1 k2.2.1]
        have a1:decide (f.toNat<NAMES)=true:=by simp[NAMES];omega
        have a2:decide (a.toNat<=PLACE)=true:=by simp[PLACE];omega
        rw[a1,a2]
        simp
       rw[hok]
       cases o with
       |nil=>
        cases n with
        |nil=>simp
        |cons x n=>cases r4<;>simp
       |cons x o=>cases r4<;>simp
    ·have ha':¬(((0:Nat):Int)<=a/\a<=((PLACE:Nat):Int)):=ha
     rw[if_neg ha']
     simp only[F9]
     rw[if_neg (fun h=>ha h.2)]
     rfl
  ·have hf':¬(((0:Nat):Int)<=f/\f<=((NAMES - 1:Nat):Int)):=hf
   rw[if_neg hf']
   cases r with
   |nil=>simp[F9]
   |cons a r=>
    simp only[F9]
    rw[if_neg (fun h=>hf h.1)]
    rfl
def BM (ns:List Int):Option Step:=match ns with
 |[_,f,x,y]=>if (0<=f/\f<=9)/\(0<=x/\x<=99)/\(0<=y/\y<=99)/\¬x=y then some (.swap f.toNat x.toNat y.toNat) else none
 |_=>none
theorem Og (r:List Int):whole readStep (1::r)=BM (1::r):=by
 unfold whole readStep
 simp only[readPair]
 match r with
 |[]=>simp[readNat,BM]
 |[f]=>
  simp only[Aj,BM]
  by_cases hf':((0:Nat):Int)<=f/\f<=((NAMES - 1:Nat):Int)
  ·rw[if_pos hf'];rfl
  ·rw[if_neg hf'];rfl
 |[f,x]=>
  simp only[Aj,BM]
  by_cases hf':((0:Nat):Int)<=f/\f<=((NAMES - 1:Nat):Int)
  ·rw[if_pos hf']
   simp only[Option.bind_some,Aj]
   by_cases hx':((0:Nat):Int)<=x/\x<=((TOKENS - 1:Nat):Int)
   ·rw[if_pos hx'];rfl
   ·rw[if_neg hx'];rfl
  ·rw[if_neg hf'];rfl
 |f::x::y::r=>
  simp only[Aj]
  by_cases hf:(0:Int)<=f/\f<=9
  ·have hf':((0:Nat):Int)<=f/\f<=((NAMES - 1:Nat):Int):=hf
   rw[if_pos hf']
   by_cases hx:(0:Int)<=x/\x<=99
   ·have hx':((0:Nat):Int)<=x/\x<=((TOKENS - 1:Nat):Int):=hx
    simp only[Option.bind_some,Aj]
    rw[if_pos hx']
    by_cases hy:(0:Int)<=y/\y<=99
    ·have hy':((0:Nat):Int)<=y/\y<=((TOKENS - 1:Nat):Int):=hy
     simp only[Option.bind_some,Aj]
     rw[if_pos hy']
     simp only[Option.map_some,Option.bind_some]
     have hok:okStep (.swap f.toNat x.toNat y.toNat)=!decide (x=y):=by
      simp only[okStep]
      have a1:decide (f.toNat<NAMES)=true:=by simp[NAMES];omega
      have a2:decide (x.toNat<TOKENS)=true:=by simp[TOKENS];omega
      have a3:decide (y.toNat<TOKENS)=true:=by simp[TOKENS];omega
      rw[a1,a2,a3]
      by_cases hxy:x=y
      ·subst hxy;simp
      ·have:x.toNat≠y.toNat:=by omega
       simp[hxy,this]
     rw[hok]
     cases r with
     |nil=>
      simp only[BM]
      by_cases hxy:x=y
      ·simp[hxy]
      ·simp[hxy,hf,hx,hy]
     |cons z r=>by_cases hxy:x=y<;>simp[hxy,BM]
    ·have hy':¬(((0:Nat):Int)<=y/\y<=((TOKENS - 1:Nat):Int)):=hy
     simp only[Option.bind_some,Aj]
     rw[if_neg hy']
     cases r with
     |nil=>simp only[BM];rw[if_neg (fun h=>hy h.2.2.1)];rfl
     |cons z r=>rfl
   ·have hx':¬(((0:Nat):Int)<=x/\x<=((TOKENS - 1:Nat):Int)):=hx
    simp only[Option.bind_some,Aj]
    rw[if_neg hx']
    cases r with
    |nil=>simp only[BM];rw[if_neg (fun h=>hx h.2.1)];rfl
    |cons z r=>rfl
  ·have hf':¬(((0:Nat):Int)<=f/\f<=((NAMES - 1:Nat):Int)):=hf
   rw[if_neg hf']
   cases r with
   |nil=>simp only[BM];rw[if_neg (fun h=>hf h.1)];rfl
   |cons z r=>rfl
def DD (ns:List Int):Option Step:=match ns with
 |[k,f]=>if 0<=f/\f<=9 then (if k=2 then some (.add f.toNat) else some (.remove f.toNat)) else none
 |_=>none
theorem Q2 (r:List Int):whole readStep (2::r)=DD (2::r):=by
 unfold whole readStep
 match r with
 |[]=>simp[readNat,DD]
 |f::r=>
  simp only[Aj]
  by_cases hf:(0:Int)<=f/\f<=9
  ·have hf':((0:Nat):Int)<=f/\f<=((NAMES - 1:Nat):Int):=hf
   rw[if_pos hf']
   cases r with
   |nil=>simp[DD,hf]
   |cons z r=>simp[DD]
  ·have hf':¬(((0:Nat):Int)<=f/\f<=((NAMES - 1:Nat):Int)):=hf
   rw[if_neg hf']
   cases r with
   |nil=>simp only[DD];rw[if_neg hf];rfl
   |cons z r=>rfl
theorem Q6 (r:List Int):whole readStep (3::r)=DD (3::r):=by
 unfold whole readStep
 match r with
 |[]=>simp[readNat,DD]
 |f::r=>
  simp only[Aj]
  by_cases hf:(0:Int)<=f/\f<=9
  ·have hf':((0:Nat):Int)<=f/\f<=((NAMES - 1:Nat):Int):=hf
   rw[if_pos hf']
   cases r with
   |nil=>simp[DD,hf]
   |cons z r=>simp[DD]
  ·have hf':¬(((0:Nat):Int)<=f/\f<=((NAMES - 1:Nat):Int)):=hf
   rw[if_neg hf']
   cases r with
   |nil=>simp only[DD];rw[if_neg hf];rfl
   |cons z r=>rfl
def Bz (ns:List Int):Option Step:=match ns with
 |[_,f,g]=>if (0<=f/\f<=9)/\(0<=g/\g<=9)/\¬f=g then some (.move f.toNat g.toNat) else none
 |_=>none
theorem OY (r:List Int):whole readStep (4::r)=Bz (4::r):=by
 unfold whole readStep
 simp only[readPair]
 match r with
 |[]=>simp[readNat,Bz]
 |[f]=>
  simp only[Aj,Bz]
  by_cases hf':((0:Nat):Int)<=f/\f<=((NAMES - 1:Nat):Int)
  ·rw[if_pos hf'];rfl
  ·rw[if_neg hf'];rfl
 |f::g::r=>
  simp only[Aj]
  by_cases hf:(0:Int)<=f/\f<=9
  ·have hf':((0:Nat):Int)<=f/\f<=((NAMES - 1:Nat):Int):=hf
   rw[if_pos hf']
   by_cases hg:(0:Int)<=g/\g<=9
   ·have hg':((0:Nat):Int)<=g/\g<=((NAMES - 1:Nat):Int):=hg
    simp only[Option.bind_some,Aj]
    rw[if_pos hg']
    simp only[Option.map_some,Option.bind_some]
    have hok:okStep (.move f.toNat g.toNat)=!decide (f=g):=by
     simp only[okStep]
     have a1:decide (f.toNat<NAMES)=true:=by simp[NAMES];omega
     have a2:decide (g.toNat<NAMES)=true:=by simp[NAMES];omega
     rw[a1,a2]
     by_cases hxy:f=g
     ·subst hxy;simp
     ·have:f.toNat≠g.toNat:=by omega
      simp[hxy,this]
    rw[hok]
    cases r with
    |nil=>
     simp only[Bz]
     by_cases hxy:f=g
     ·simp[hxy]
     ·simp[hxy,hf,hg]
    |cons z r=>by_cases hxy:f=g<;>simp[hxy,Bz]
   ·have hg':¬(((0:Nat):Int)<=g/\g<=((NAMES - 1:Nat):Int)):=hg
    simp only[Option.bind_some,Aj]
    rw[if_neg hg']
    cases r with
    |nil=>simp only[Bz];rw[if_neg (fun h=>hg h.2.1)];rfl
    |cons z r=>rfl
  ·have hf':¬(((0:Nat):Int)<=f/\f<=((NAMES - 1:Nat):Int)):=hf
   rw[if_neg hf']
   cases r with
   |nil=>simp only[Bz];rw[if_neg (fun h=>hf h.1)];rfl
   |cons z r=>rfl
theorem Mh {k:Int} (r:List Int) (h:k≠0/\k≠1/\k≠2/\k≠3/\k≠4):whole readStep (k::r)=none:=by
 unfold whole readStep
 split
 next u e=>
  exfalso
  split at e<;>simp_all
 next=>rfl
end Ps
end
section
namespace Ps
open VapatBase
open Vapatc (Patch Row)
theorem TF:∀{a:List Nat} {n:Nat} {r:Row},Vapate.takeFront (a++[n]) r=(Vapate.takeFront a r).bind fun z=>(Vapatc.front z.2 n).map fun w=>(z.1++[w.1],w.2)
 |[],n,r=>by
  simp only[List.nil_append,Vapate.takeFront,Option.bind_some]
  cases Vapatc.front r n with
  |none=>rfl
  |some w=>rfl
 |m::a,n,r=>by
  simp only[List.cons_append,Vapate.takeFront]
  cases hf:Vapatc.front r m with
  |none=>rfl
  |some w=>
   simp only[Option.bind_some]
   rw[TF]
   cases Vapate.takeFront a w.2 with
   |none=>rfl
   |some z=>
    simp only[Option.bind_some,Option.map_some]
    cases Vapatc.front z.2 n with
    |none=>rfl
    |some y=>rfl
theorem TU:∀{a b:List Nat} {n:Nat} {r x Ax:Row},Vapate.takeFront a r=some (x,Ax)->Vapatc.front Ax n=none->Vapate.takeFront (a++n::b) r=none
 |[],b,n,r,x,Ax,h,hf=>by
  simp[Vapate.takeFront]at h
  obtain ⟨rfl,rfl⟩:=h
  simp[Vapate.takeFront,hf]
 |m::a,b,n,r,x,Ax,h,hf=>by
  simp only[Vapate.takeFront,Option.bind_eq_some_iff,Option.map_eq_some_iff]at h
  obtain ⟨w,e1,z,e2,e3⟩:=h
  cases e3
  simp only[List.cons_append,Vapate.takeFront,e1,Option.bind_some]
  rw[TU e2 hf]
  rfl
theorem WI {n:Nat}:∀{l:List Nat},∃m,(Vapatc.put n l).head?=some m/\(m=n\/l.head?=some m)/\m<=n/\∀x,l.head?=some x->m<=x
 |[]=>⟨n,rfl,Or.inl rfl,Nat.le_refl _,by simp⟩
 |x::l=>by
  simp only[Vapatc.put]
  split
  next h=>exact ⟨n,rfl,Or.inl rfl,Nat.le_refl _,by simp;omega⟩
  next h=>exact ⟨x,rfl,Or.inr rfl,by omega,by simp⟩
theorem Ss (l:List Nat) (hl:l≠[]):∃m,(Vapatc.rising l).head?=some m/\m∈l/\∀x∈l,m<=x:=by
 unfold Vapatc.rising
 have key:∀(l k:List Nat),(l≠[]\/k≠[])->∃m,(l.foldl (fun k x=>Vapatc.put x k) k).head?=some m/\(m∈l\/k.head?=some m)/\(∀x∈l,m<=x)/\∀x,k.head?=some x->m<=x:=by
  intro l
  induction l with
  |nil=>
   intro k h
   cases k with
   |nil=>simp at h
   |cons x k=>exact ⟨x,rfl,Or.inr rfl,by simp,by simp⟩
  |cons y l ih=>
   intro k _
   obtain ⟨p,hp,hp2,hp3,hp4⟩:=WI (n:=y) (l:=k)
   obtain ⟨m,h1,h2,h3,h4⟩:=ih (Vapatc.put y k) (Or.inr (by intro e;rw[e]at hp;simp at hp))
   have hmp:m<=p:=h4 p hp
   refine ⟨m,h1,?_,?_,?_⟩
   ·rcases h2 with h2|h2
    ·exact Or.inl (List.mem_cons_of_mem _ h2)
    ·rw[hp]at h2
     cases h2
     rcases hp2 with rfl|hp2
     ·exact Or.inl (by simp)
     ·exact Or.inr hp2
   ·intro x hx
    rcases List.mem_cons.1 hx with rfl|hx
    ·omega
    ·exact h3 x hx
   ·intro x hx
    have:=hp4 x hx
    omega
 obtain ⟨m,h1,h2,h3,-⟩:=key l [] (Or.inl hl)
 rcases h2 with h2|h2
 ·exact ⟨m,h1,h2,h3⟩
 ·simp at h2
def FY (r:Row) (i:Nat):Option (Patch×Row):=match r[i]? with
 |none=>none
 |some p=>(ah (r.take i) p).map fun z=>(z.1,z.2++r.drop (i+1))
theorem OP {r:Row} (ok:AOk r) (hn:(nms r).Nodup) {i:Nat} {p:Patch} (hi:r[i]?=some p):Vapatc.front r p.name=FY r i:=by
 obtain ⟨hlt,e⟩:=List.getElem?_eq_some_iff.mp hi
 have er:r=r.take i++p::r.drop (i+1):=by rw[<-e,<-List.drop_eq_getElem_cons hlt,List.take_append_drop]
 have hnl:p.name∉nms (r.take i):=by
  intro h
  rw[er]at hn
  exact (Ac hn).2.2 _ h (by simp[nms])
 have:=Gm (l:=r.take i) (r:=r.drop (i+1)) (p:=p) (n:=p.name) hnl rfl (by rw[<-er];exact ok)
 rw[<-er]at this
 rw[this]
 unfold FY
 rw[hi]
theorem Q9 {r:Row} {i:Nat} {c:Patch×Row} (h:FY r i=some c):∃p,r[i]?=some p/\c.1.name=p.name:=by
 unfold FY at h
 split at h
 ·cases h
 next p e=>
  simp only[Option.map_eq_some_iff]at h
  obtain ⟨z,hz,rfl⟩:=h
  exact ⟨p,e,(KS hz).2.2⟩
theorem Q3 {p:Patch} {r:Row}:FY (p::r) 0=some (p,r):=by simp[FY,ah]
def FV (r:Row):Nat->Option (Patch×Row)
 |0=>none
 |i+1=>match FY r i with
  |none=>FV r i
  |some c=>match FV r i with
   |none=>some c
   |some b=>if c.1.name<b.1.name then some c else some b
theorem JB (r:Row):∀(n:Nat),(FV r n=none/\∀j,j<n->FY r j=none)\/∃c j,FV r n=some c/\j<n/\FY r j=some c/\∀j',j'<n->∀c',FY r j'=some c'->c.1.name<=c'.1.name
 |0=>Or.inl ⟨rfl,by simp⟩
 |n+1=>by
  simp only[FV]
  cases hc:FY r n with
  |none=>
   rcases JB r n with ⟨h1,h2⟩|⟨c,j,h1,h2,h3,h4⟩
   ·refine Or.inl ⟨h1,fun j hj=>?_⟩
    by_cases e:j=n
    ·rw[e];exact hc
    ·exact h2 j (by omega)
   ·refine Or.inr ⟨c,j,h1,by omega,h3,fun j' hj' c' hc'=>?_⟩
    by_cases e:j'=n
    ·rw[e,hc]at hc';cases hc'
    ·exact h4 j' (by omega) c' hc'
  |some d=>
   rcases JB r n with ⟨h1,h2⟩|⟨c,j,h1,h2,h3,h4⟩
   ·rw[h1]
    refine Or.inr ⟨d,n,rfl,by omega,hc,fun j' hj' c' hc'=>?_⟩
    by_cases e:j'=n
    ·rw[e,hc]at hc';cases hc';exact Nat.le_refl _
    ·rw[h2 j' (by omega)]at hc';cases hc'
   ·rw[h1]
    simp only
    split
    next hlt=>
     refine Or.inr ⟨d,n,rfl,by omega,hc,fun j' hj' c' hc'=>?_⟩
     by_cases e:j'=n
     ·rw[e,hc]at hc';cases hc';exact Nat.le_refl _
     ·have:=h4 j' (by omega) c' hc';omega
    next hlt=>
     refine Or.inr ⟨c,j,rfl,by omega,h3,fun j' hj' c' hc'=>?_⟩
     by_cases e:j'=n
     ·rw[e,hc]at hc';cases hc';omega
     ·exact h4 j' (by omega) c' hc'
theorem Vs {r:Row} (ok:AOk r) (hn:(nms r).Nodup) (hr:r≠[]):∃n c,(Vapatc.fronts r).head?=some n/\Vapatc.front r n=some c/\FV r r.length=some c:=by
 rcases JB r r.length with ⟨h1,h2⟩|⟨c,j,h1,h2,h3,h4⟩
 ·exfalso
  cases r with
  |nil=>exact hr rfl
  |cons p r=>
   have:=h2 0 (by simp)
   rw[Q3]at this
   cases this
 ·obtain ⟨p,hp,hcp⟩:=Q9 h3
  have hf:Vapatc.front r p.name=some c:=by rw[OP ok hn hp,h3]
  have hmem:p.name∈(Vapatc.namesOf r).filter fun n=>(Vapatc.front r n).isSome:=by
   rw[List.mem_filter]
   exact ⟨by rw[DH];exact List.mem_map.2 ⟨p,List.mem_of_getElem? hp,rfl⟩,by rw[hf];rfl⟩
  obtain ⟨m,hm1,hm2,hm3⟩:=Ss _ (List.ne_nil_of_mem hmem)
  have hle:=hm3 _ hmem
  have hm:m=p.name:=by
   rw[List.mem_filter]at hm2
   obtain ⟨a1,a2⟩:=hm2
   rw[DH]at a1
   obtain ⟨q,hq,rfl⟩:=List.mem_map.1 a1
   obtain ⟨jq,hjq,eq⟩:=List.mem_iff_getElem.1 hq
   have hjq2:r[jq]?=some q:=by rw[List.getElem?_eq_getElem hjq,eq]
   cases hc:FY r jq with
   |none=>rw[OP ok hn hjq2,hc]at a2;cases a2
   |some c'=>
    obtain ⟨q',hq',hcq⟩:=Q9 hc
    rw[hjq2]at hq'
    cases hq'
    have:=h4 jq hjq c' hc
    omega
  subst hm
  exact ⟨_,c,hm1,hf,h1⟩
theorem Q5 {r:Row} (ok:AOk r) (hn:(nms r).Nodup) (hr:r≠[]):∃c,FV r r.length=some c/\Vapatc.form r=c.1::Vapatc.form c.2/\Q r (c.1::c.2):=by
 obtain ⟨n,c,h1,h2,h3⟩:=Vs ok hn hr
 refine ⟨c,h3,?_,(Gq ok hn h2).1⟩
 have hl:r.length=c.2.length+1:=by
  have:=(Gq ok hn h2).1.len
  simpa using this
 unfold Vapatc.form
 rw[hl]
 simp only[Vapatc.formBy,h1,h2]
theorem Wi:Vapatc.form []=[]:=rfl
theorem Xu:∀(k:Nat) {r:Row},r.length=k->AOk r->(nms r).Nodup->Q r (Vapatc.form r):=by
 intro k
 induction k with
 |zero=>
  intro r hk _ _
  rw[List.eq_nil_of_length_eq_zero hk]
  exact .refl _
 |succ k ih=>
  intro r hk ok hn
  obtain ⟨c,-,h2,h3⟩:=Q5 ok hn (by rintro rfl;simp at hk)
  rw[h2]
  have hl:=h3.len
  have hn2:=h3.nodup hn
  refine h3.trans (Q.cons _ (ih (by simp at hl;omega) (AOk.cons.1 (AOk.Q h3 ok)).2 (nodup_cons hn2).2))
end Ps
end
section
namespace Ps
open VapatBase
open Vapatc (Patch Row)
def TB (L B:Nat) (t:Tree):Prop:=t.length<=L/\∀f c,fileIn t f=some c->c.length<=B
theorem G6 (f:Nat) (c:Tokens):∀t:Tree,(putFile f c t).length<=t.length+1
 |[]=>by simp[putFile]
 |x::t=>by
  simp only[putFile]
  split
  ·simp
  ·split
   ·simp
   ·have:=G6 f c t
    simp only[List.length_cons]
    omega
theorem drop_length (f:Nat) (t:Tree):(dropFile f t).length<=t.length:=List.length_filter_le _ _
theorem TB.mono {L B L' B':Nat} {t:Tree} (h:TB L B t) (h1:L<=L') (h2:B<=B'):TB L' B' t:=⟨Nat.le_trans h.1 h1,fun f c e=>Nat.le_trans (h.2 f c e) h2⟩
theorem Te {L B:Nat} {t u:Tree} {p:Step} (hs:match p with
  |.hunk _ _ o n=>o.length<=8/\n.length<=8
  |_=>True) (h:applied t p=some u) (ht:TB L B t):TB (L+1) (B+8) u:=by
 cases p with
 |hunk f a o n=>
  simp only[applied,Option.bind_eq_some_iff,Option.map_eq_some_iff]at h
  obtain ⟨c,e1,d,e2,rfl⟩:=h
  refine ⟨by have:=G6 f d t;have:=ht.1;omega,fun g c' e=>?_⟩
  rw[BP]at e
  split at e
  ·cases e
   obtain ⟨l,r,rfl,rfl,rfl⟩:=B1.1 e2
   have:=ht.2 f _ e1
   simp at this hs ⊢
   omega
  ·have:=ht.2 g c' e;omega
 |swap f x y=>
  simp only[applied,Option.map_eq_some_iff]at h
  obtain ⟨c,e1,rfl⟩:=h
  refine ⟨by have:=G6 f (swapAll x y c) t;have:=ht.1;omega,fun g c' e=>?_⟩
  rw[BP]at e
  split at e
  ·cases e
   have:=ht.2 f _ e1
   rw[AR]
   omega
  ·have:=ht.2 g c' e;omega
 |add f=>
  simp only[applied]at h
  split at h
  ·cases h
   refine ⟨by have:=G6 f [] t;have:=ht.1;omega,fun g c' e=>?_⟩
   rw[BP]at e
   split at e
   ·cases e;simp
   ·have:=ht.2 g c' e;omega
  ·cases h
 |remove f=>
  simp only[applied]at h
  split at h
  ·cases h
   refine ⟨by have:=drop_length f t;have:=ht.1;omega,fun g c' e=>?_⟩
   rw[DP]at e
   split at e
   ·cases e
   ·have:=ht.2 g c' e;omega
  ·cases h
 |move f g=>
  simp only[applied]at h
  split at h
  next c e1 e2=>
   cases h
   refine ⟨by have:=G6 g c (dropFile f t);have:=drop_length f t;have:=ht.1;omega,fun g' c' e=>?_⟩
   rw[BP]at e
   split at e
   ·cases e;have:=ht.2 f _ e1;omega
   ·rw[DP]at e
    split at e
    ·cases e
    ·have:=ht.2 g' c' e;omega
  ·cases h
def rt:Nat->Int->List Int->Option (Tree×List Int)
 |0,_,l=>some ([],l)
 |_+1,_,[]=>none
 |k+1,last,f::l=>if (0<=f/\f<=9)/\last<f then (match readTokens 12 l with
  |none=>none
  |some (c,l2)=>match rt k f l2 with
   |none=>none
   |some (t,l3)=>some ((f.toNat,c)::t,l3)) else none
def J5:Reader (Nat×Tokens):=readPair (readNat 0 9) (readTokens 12)
def up (last:Int):List Nat->Bool
 |[]=>true
 |n::l=>decide (last<(n:Int))&&up n l
theorem SD:∀{l:List Nat} {n:Nat},Vapatb.rises (n::l)=up n l
 |[],n=>rfl
 |m::l,n=>by
  simp only[Vapatb.rises,up,SD]
  congr 1
  simp
theorem WW (l:List Nat):Vapatb.rises l=up (-1) l:=by
 cases l with
 |nil=>rfl
 |cons n l=>
  rw[SD]
  simp only[up]
  rw[show decide ((-1:Int)<(n:Int))=true by simp;omega]
  rfl
theorem UE:∀(k:Nat) (last:Int) (l:List Int),rt k last l=(readTimes J5 k l).bind fun u=>if up last (u.1.map fun y=>y.1) then some u else none
 |0,last,l=>by simp[rt,readTimes,up]
 |k+1,last,[]=>by simp[rt,readTimes,J5,readPair,readNat]
 |k+1,last,f::l=>by
  simp only[rt,readTimes]
  have hfr:J5 (f::l)=if (0:Int)<=f/\f<=9 then (readTokens 12 l).map fun v=>((f.toNat,v.1),v.2) else none:=by
   simp only[J5,readPair,Aj]
   by_cases h:(0:Int)<=f/\f<=9
   ·have h':((0:Nat):Int)<=f/\f<=((9:Nat):Int):=h
    rw[if_pos h,if_pos h']
    rfl
   ·have h':¬(((0:Nat):Int)<=f/\f<=((9:Nat):Int)):=h
    rw[if_neg h,if_neg h']
    rfl
  rw[hfr]
  by_cases h:(0:Int)<=f/\f<=9
  ·rw[if_pos h]
   cases hr:readTokens 12 l with
   |none=>
    simp only[Option.map_none,Option.bind_none]
    split<;>rfl
   |some v=>
    obtain ⟨c,l2⟩:=v
    simp only[Option.map_some,Option.bind_some]
    have hf:((f.toNat:Nat):Int)=f:=Int.toNat_of_nonneg h.1
    by_cases hl:last<f
    ·rw[if_pos ⟨h,hl⟩,UE k f l2]
     cases hk:readTimes J5 k l2 with
     |none=>rfl
     |some w=>
      obtain ⟨t,l3⟩:=w
      simp only[Option.bind_some,Option.map_some,List.map_cons,up,hf,hl,decide_true,Bool.true_and]
      by_cases hu:up f (t.map fun y=>y.1)=true
      ·rw[if_pos hu,if_pos hu]
      ·rw[if_neg hu,if_neg hu]
    ·rw[if_neg (fun q=>hl q.2)]
     cases hk:readTimes J5 k l2 with
     |none=>rfl
     |some w=>
      simp only[Option.bind_some,Option.map_some,List.map_cons,up,hf,hl,decide_false,Bool.false_and]
      rfl
  ·rw[if_neg h,if_neg (fun q=>h q.1)]
   rfl
def DF (ns:List Int):Option Tree:=match ns with
 |[]=>none
 |z::l=>if 0<=z/\z<=6 then (match rt z.toNat (-1) l with
  |some (t,[])=>some t
  |_=>none) else none
theorem Ke (ns:List Int):whole Vapatb.readTree ns=DF ns:=by
 unfold whole Vapatb.readTree readListed
 cases ns with
 |nil=>rfl
 |cons z l=>
  simp only[Aj,DF]
  by_cases h:(0:Int)<=z/\z<=6
  ·have h':((0:Nat):Int)<=z/\z<=((Vapatb.FILES:Nat):Int):=h
   rw[if_pos h,if_pos h',UE]
   simp only[Option.bind_some]
   have hd:(readPair (readNat 0 (NAMES - 1)) (readTokens Vapatb.FILE))=J5:=rfl
   rw[hd]
   cases hk:readTimes J5 z.toNat l with
   |none=>rfl
   |some w=>
    obtain ⟨t,r⟩:=w
    simp only[Option.bind_some,WW]
    by_cases hu:up (-1) (t.map fun y=>y.1)=true
    ·simp only[if_pos hu]
     cases r<;>rfl
    ·simp only[if_neg hu]
  ·have h':¬(((0:Nat):Int)<=z/\z<=((Vapatb.FILES:Nat):Int)):=h
   rw[if_neg h,if_neg h']
   rfl
theorem Od:∀{l:List Nat} {last:Int},up last l=true->l.Pairwise (·<·)/\∀n∈l,last<(n:Int)
 |[],_,_=>⟨.nil,by simp⟩
 |n::l,last,h=>by
  simp only[up,Bool.and_eq_true,decide_eq_true_eq]at h
  obtain ⟨h1,h2⟩:=Od h.2
  refine ⟨.cons (fun m hm=>by have:=h2 m hm;omega) h1,?_⟩
  intro m hm
  rcases List.mem_cons.1 hm with rfl|hm
  ·exact h.1
  ·have:=h2 m hm;omega
theorem Ui {k:Nat} {last:Int} {l r:List Int} {t:Tree} (h:rt k last l=some (t,r)):up last (t.map fun y=>y.1)=true:=by
 rw[UE]at h
 simp only[Option.bind_eq_some_iff]at h
 obtain ⟨u,-,h2⟩:=h
 split at h2
 next hu=>cases h2;exact hu
 ·cases h2
theorem Rq:∀{k:Nat} {last:Int} {l r:List Int} {t:Tree},rt k last l=some (t,r)->t.length=k/\∀x∈t,x.2.length<=12
 |0,_,l,r,t,h=>by simp[rt]at h;obtain ⟨rfl,rfl⟩:=h;simp
 |k+1,_,[],r,t,h=>by simp[rt]at h
 |k+1,last,f::l,r,t,h=>by
  simp only[rt]at h
  split at h
  ·split at h
   ·cases h
   next c l2 e=>
    split at h
    ·cases h
    next t' l3 e2=>
     cases h
     obtain ⟨h1,h2⟩:=Rq e2
     refine ⟨by simp[h1],fun x hx=>?_⟩
     rcases List.mem_cons.1 hx with rfl|hx
     ·exact (CC e).1
     ·exact h2 x hx
  ·cases h
theorem J7:∀{t:Tree} {y:Nat×Tokens},Srt t->y∈t->fileIn t y.1=some y.2
 |[],_,_,h=>by cases h
 |x::t,y,hs,h=>by
  rw[Ag]
  rcases List.mem_cons.1 h with rfl|h
  ·simp
  ·unfold Srt at hs
   rw[List.map_cons,List.pairwise_cons]at hs
   have:=hs.1 y.1 (List.mem_map.2 ⟨y,h,rfl⟩)
   rw[if_neg (by omega)]
   exact J7 hs.2 h
theorem Mn:∀{t:Tree} {g:Nat} {c:Tokens},(∀x∈t,x.1≠g)->∀n,fileIn (t++[(g,c)]) n=if n=g then some c else fileIn t n
 |[],g,c,_,n=>by
  rw[List.nil_append,Ag]
  by_cases h:n=g
  ·simp[h]
  ·rw[if_neg (fun q=>h q.symm),if_neg h]
 |x::t,g,c,h,n=>by
  rw[List.cons_append,Ag,Ag,Mn (fun y hy=>h y (List.mem_cons_of_mem _ hy)) n]
  by_cases e:x.1=n
  ·rw[if_pos e,if_pos e,if_neg (fun q=>h x (List.mem_cons_self ..) (e.trans q))]
  ·rw[if_neg e,if_neg e]
theorem Px:∀{t:Tree} {f:Nat} {c:Tokens},fileIn t f=some c->(f,c)∈t
 |[],_,_,h=>by simp[fileIn]at h
 |x::t,f,c,h=>by
  rw[Ag]at h
  split at h
  next e=>cases h;subst e;exact List.mem_cons_self ..
  ·exact List.mem_cons_of_mem _ (Px h)
theorem M6 {ns:List Int} {t:Tree} (h:DF ns=some t):Srt t/\TB 6 12 t:=by
 unfold DF at h
 split at h
 ·cases h
 next z l=>
  split at h
  next hz=>
   split at h
   next t' e=>
    cases h
    obtain ⟨h1,h2⟩:=Rq e
    exact ⟨(Od (Ui e)).1,by omega,fun f c hf=>h2 _ (Px hf)⟩
   ·cases h
  ·cases h
theorem Td:∀{k:Nat} {last:Int} {l:List Int} {t:Tree} {f:Int} {l1:List Int},rt k last l=some (t,f::l1)->
  rt (k+1) last l=if (0<=f/\f<=9)/\(t.getLast?.map (fun x=>(x.1:Int))).getD last<f then (match readTokens 12 l1 with
   |none=>none
   |some (c,l2)=>some (t++[(f.toNat,c)],l2)) else none
 |0,last,l,t,f,l1,h=>by
  simp[rt]at h
  obtain ⟨rfl,rfl⟩:=h
  by_cases q:(0<=f/\f<=9)/\last<f
  ·rw[if_pos (show (0<=f/\f<=9)/\(([]:Tree).getLast?.map (fun x=>(x.1:Int))).getD last<f from q),rt,if_pos q]
   cases readTokens 12 l1 with
   |none=>rfl
   |some v=>rfl
  ·rw[if_neg (show ¬((0<=f/\f<=9)/\(([]:Tree).getLast?.map (fun x=>(x.1:Int))).getD last<f) from q),rt,if_neg q]
 |k+1,last,[],t,f,l1,h=>by simp[rt]at h
 |k+1,last,g::l,t,f,l1,h=>by
  rw[rt]at h
  rw[rt]
  split at h
  next hg=>
   split at h
   ·cases h
   next c l2 e=>
    split at h
    ·cases h
    next t' l3 e2=>
     cases h
     rw[if_pos hg]
     rw[Td e2]
     have hg0:((g.toNat:Nat):Int)=g:=Int.toNat_of_nonneg hg.1.1
     have hlast:(((g.toNat,c)::t').getLast?.map (fun x=>(x.1:Int))).getD last=(t'.getLast?.map (fun x=>(x.1:Int))).getD g:=by
      cases t' with
      |nil=>simp[hg0]
      |cons y t'=>simp[List.getLast?_cons]
     rw[hlast]
     by_cases q:(0<=f/\f<=9)/\(t'.getLast?.map (fun x=>(x.1:Int))).getD g<f
     ·rw[if_pos q,if_pos q]
      cases readTokens 12 l1 with
      |none=>rfl
      |some v=>rfl
     ·rw[if_neg q,if_neg q]
  ·cases h
theorem Rw:∀{k:Nat} {last:Int} {l:List Int} {t:Tree},rt k last l=some (t,[])->∀j,rt (k+1+j) last l=none
 |0,last,l,t,h=>by
  intro j
  simp[rt]at h
  obtain ⟨rfl,rfl⟩:=h
  rw[show 0+1+j=j+1 by omega]
  rfl
 |k+1,last,[],t,h=>by simp[rt]at h
 |k+1,last,g::l,t,h=>by
  intro j
  rw[rt]at h
  rw[show k+1+1+j=(k+1+j)+1 by omega,rt]
  split at h
  next hg=>
   split at h
   ·cases h
   next c l2 e=>
    split at h
    ·cases h
    next t' l3 e2=>
     cases h
     rw[if_pos hg]
     simp only[Rw e2 j]
  ·cases h
theorem TV:∀{k:Nat} {last:Int} {l:List Int},rt k last l=none->∀j,rt (k+j) last l=none
 |0,last,l,h=>by simp[rt]at h
 |k+1,last,[],h=>by
  intro j
  rw[show k+1+j=(k+j)+1 by omega]
  rfl
 |k+1,last,g::l,h=>by
  intro j
  rw[rt]at h
  rw[show k+1+j=(k+j)+1 by omega,rt]
  split at h
  next hg=>
   rw[if_pos hg]
   split at h
   next e=>rfl
   next c l2 e=>
    split at h
    next e2=>rw[TV e2 j]
    ·cases h
  next hg=>rw[if_neg hg]
end Ps
end
section
namespace Pz
open PySem PySem.Spec PyProof.Rows L2
theorem A1.tup {K:PySem.W.Frag} {H H':Hp} {a:Addr} {xs:List V} (e:A1 H H') (h:SqT K H a xs):SqT K H' a xs:=by
 rcases h with (h|⟨o,h⟩)|h
 ·exact .inl (.inl (e _ _ h))
 ·exact .inl (.inr ⟨o,e _ _ h⟩)
 ·exact .inr h
theorem A1.new {H:Hp} {p:Addr} {o:HO} (h:H p=none):A1 H (upd H p o):=fun b u e=>by
 rw[A8 (AV e h)];exact e
theorem L5 {prog:Program} {w:World} {A:Around} {E:Value->Shared->Prop} {s:Shared} {t sl:Addr} {items:Array Value} {vl vu:Value} {lo hi:Option Int} {Q:Value->Shared->Prop} (ht:IsTup s.heap t items) (hs:s.heap.IsSliceOf sl vl vu .none) (pl:IsPart vl lo) (pu:IsPart vu hi)
  (hw:HT.sIx items.size 0 lo=0/\HT.sIx items.size items.size hi=items.size) (h:Q (.ref t) s):wpAny (model prog w) A (getItem (.ref t) (.ref sl)) Q E s:=by
 obtain ⟨os,hos,hcs,hds⟩:=id hs
 have hTs:s.TypeIs (.ref sl) "slice":=⟨os,hos,hcs⟩
 unfold getItem
 try with_reducible refine wpAny_holding ?_
 first|refine wpAny_bind (wpAny_pure ?_)|skip
 refine wpAny_bind (wpAny_sequenceKey ht.typeIs (by decide) ?_)
 refine wpAny_bind (wpAny_callSpecial?_slot (name:=Str.ofString "__getitem__") ht.typeIs PyProof.Rows.slot_tuple_getitem
  (wpAny_call_entry PyProof.Rows.slot_tuple_getitem ht.typeIs entry_tuple_getitem ?_ (args_tuple_getitem _ _)))
 show wpAny _ _ (Builtin.Tuple.tupleItemsOf (.ref t)>>=_) _ _ s
 refine wpAny_bind (tupleItemsOf_ ht ?_)
 refine wpAny_bind (wpAny_typeOf hTs ?_)
 rw[if_pos (by decide)]
 refine wpAny_bind (HT.sliceApplied_gen hs pl pu ?_)
 have hyes:(((HT.sIx items.size 0 lo:Nat):Int)==0&&(1:Int)==1&&(HT.sIx items.size items.size hi - HT.sIx items.size 0 lo)==items.size)=true:=by
  rw[hw.1,hw.2];simp
 show wpAny _ _ (if (((HT.sIx items.size 0 lo:Nat):Int)==0&&(1:Int)==1&&(HT.sIx items.size items.size hi - HT.sIx items.size 0 lo)==items.size)=true then _ else _) _ _ s
 rw[if_pos hyes]
 refine wpAny_bind (wpAny_bind (wpAny_typeOf ht.typeIs (wpAny_pure ?_)))
 rw[if_pos (by decide)]
 exact wpAny_bind (wpAny_rule (wpAny_pure ⟨_,rfl,wpAny_pure h⟩))
section
variable {X:Cx}
def Ig (K:PySem.W.Frag):V->Option Int->Option Int->Hp->VK->Prop:=fun x lo hi H Q=>∃a xs,x=.ref a/\SqT K H a xs/\∀p H',A1 H H'->SqT K H' p (BG xs lo hi)->Q (.ref p) H'
theorem VL {xs:List V} {lo hi:Option Int} (h:HT.sIx xs.length 0 lo=0/\HT.sIx xs.length xs.length hi=xs.length):BG xs lo hi=xs:=by
 unfold BG
 rw[h.1,h.2]
 simp
theorem Gi:SlR X (Ig X.K):=by
 intro pins s σ H x v vl vu lo hi sl Q I rx hs pl pu h
 obtain ⟨a,xs,rfl,hx,q⟩:=h
 by_cases hw:HT.sIx xs.length 0 lo=0/\HT.sIx xs.length xs.length hi=xs.length
 ·cases rx
  obtain ⟨its,r,ht,hz⟩:=I.tuple hx
  have hlen:its.toArray.size=xs.length:=by rw[List.size_toArray];exact r.length.symm
  refine ⟨"tuple",_,PyProof.Rows.slot_tuple_getitem.lookup,ht.typeIs,?_⟩
  refine L5 ht hs pl pu (by rw[hlen];exact hw) ?_
  exact ⟨.ref a,H,I,rfl,q a H (A1.refl H) (by rw[VL hw];exact hx)⟩
 ·exact YG pins s σ H _ v vl vu lo hi sl Q I rx hs pl pu ⟨a,xs,rfl,hx,hw,fun p hp=>q p _ (A1.new hp) (SqT.of A4)⟩
theorem TW {xs:List V} {i j:Int} {a b:Nat} (hi:i=(a:Int)) (hj:j=(b:Int)) (ha:a<=xs.length) (hb:b<=xs.length):BG xs (some i) (some j)=(xs.drop a).take (b - a):=by
 subst hi hj
 unfold BG
 rw[HT.sIx_nat,HT.sIx_nat,Nat.min_eq_left ha,Nat.min_eq_left hb]
def KR (K:PySem.W.Frag):R2:=fun x y H Q=>∃a b xs ys,x=.ref a/\y=.ref b/\SqT K H a xs/\SqT K H b ys/\xs.length+ys.length<=sizeLine/\∀p H',A1 H H'->SqT K H' p (xs++ys)->Q (.ref p) H'
theorem PQ:OpR X (binaryOp .Add) (KR X.K):=by
 intro pins s σ H x y v u Q I rx ry h
 obtain ⟨a,b,xs,ys,rfl,rfl,ha,hb,hz,q⟩:=h
 by_cases hx:xs=[]
 ·cases rx
  cases ry
  obtain ⟨its,r1,p1,_⟩:=I.tuple ha
  obtain ⟨its2,r2,p2,_⟩:=I.tuple hb
  have e1:its=[]:=r1.nil_iff.mpr hx
  subst e1
  obtain ⟨⟨cls,dd,data,sl⟩,ho,hc,n,hd⟩:=id p1
  obtain ⟨⟨cls2,dd2,data2,sl2⟩,ho2,hc2,n2,hd2⟩:=id p2
  simp only at hc hd hc2 hd2
  subst hc hd hc2 hd2
  refine concat_meets ⟨_,ho,rfl⟩ ⟨_,ho2,rfl⟩ noFill_tuple_add seq_tuple_add PySem.F.slot_tuple_add PySem.F.entry_tuple_add (PySem.F.args_tuple_add_2 _ _)
   (tuple_addW0 a b [].toArray its2.toArray n n2 dd dd2 sl sl2 (by simp)) ⟨ho,ho2,?_⟩
  exact ⟨.ref b,H,I,rfl,q b H (A1.refl H) (by subst hx;exact hb)⟩
 ·exact XF pins s σ H _ _ v u Q I rx ry ⟨a,b,xs,ys,rfl,rfl,ha,hb,hx,hz,fun e=>q a H (A1.refl H) (by rw[e,List.append_nil];exact ha),fun _ p hp=>q p _ (A1.new hp) (SqT.of A4)⟩
end
end Pz
end
section
namespace Pz
open PySem PySem.Spec PyProof.Rows L2
section
variable {X:Cx}
def KL:List V->Hp->VK->Prop:=fun vs H Q=>∃(a:Addr) (kvs:List (Key×V)) (ns:List Int),vs=[V.ref a]/\H a=some (.dK kvs)/\kvs.map (·.1)=ns.map Sum.inl/\ns.length<64/\
 ∀(ns':List Int) (p:Addr),ns'.Perm ns->ns'.Pairwise (·<=·)->H p=none->Q (.ref p) (upd H p (.lst (ns'.map V.int)))
theorem Pq {P:Program} {w:World}:∀{kvs:List (Key×Value)} {ns:List Int} {us:List Value},kvs.map (·.1)=ns.map Sum.inl->us.length=kvs.length->(∀(j:Nat) (v:Value),us[j]?=some v->∃k x,kvs[j]?=some (k,x)/\(B3 P w).is k v=true)->AS (ns.map V.int) us
 |[],[],[],_,_,_=>.nil
 |(k,x)::kvs,n::ns,u::us,e,hl,h=>by
  obtain ⟨e1,e2⟩:=List.cons.inj e
  simp only at e1
  subst e1
  obtain ⟨k',x',h1,h2⟩:=h 0 u rfl
  cases h1
  refine .cons ?_ (Pq e2 (by simpa using hl) fun j v hj=>h (j+1) v (by simpa using hj))
  exact WG (k:=Sum.inl n) h2
 |[],n::ns,_,e,_,_=>by simp at e
 |(k,x)::kvs,[],_,e,_,_=>by simp at e
 |[],[],u::us,_,hl,_=>by simp at hl
 |(k,x)::kvs,n::ns,[],_,hl,_=>by simp at hl
theorem Oe (hc:X.calm=true):Gp X (.builtin "sorted") KL:=by
 intro pins s σ H vs us Q I r h
 obtain ⟨a,kvs,ns,rfl,ha,hk,h64,q⟩:=h
 rw[AS.ref1 r]
 obtain ⟨z,hd,vs0,rk,dd⟩:=OG I.hok ha
 obtain ⟨ep,hat⟩:=dd.dictAt
 have hlen:vs0.length=ns.length:=by
  rw[<-KV.length rk]
  have:=congrArg List.length hk
  simpa using this
 (refine Calls.call_function_entry kind_sorted plain_sorted entry_sorted (args_sorted1 _) ?_);(unfold Builtin.«sorted»);(refine wpAny_bind (m:=checkCount "sorted" 1 1 _) (wpAny_pure ?_))
 refine wpAny_bind (PySem.W.kdu_collect (A:=X.A.in1) (PySem.W.kdl_dict (knd:=B3 X.prog X.w) (kvs:=vs0) (ep:=ep) hd) (I.ok.hd hc) hat (by rw[hlen];exact MM h64) fun h' tk acc hkp hacc=>?_)
 have hl:acc.toList.length=vs0.length:=by rw[Array.length_toList];exact hacc.1
 have hv:AS (ns.map V.int) acc.toList:=Pq (P:=X.prog) (w:=X.w) (kvs:=vs0) (by rw[<-KV.keys rk];exact hk) hl (fun j v e=>hacc.2 j v (by rw[<-Array.getElem?_toList];exact e))
 refine wpAny_bind (wpAny_newList ?_ (by rw[hl,hlen];exact MM h64))
 have I1:L2.Inv X pins σ H {s with heap:=h',toks:=tk}:=I.kept hkp
 have hfr:H h'.objs.size=none:=I1.hok.fresh (Nat.le_refl _)
 have hlen2:(ns.map V.int).length<=sizeLine:=by rw[List.length_map];exact MM h64
 have hob:(h'.push {cls:=.type "list",data:=.seq acc.toList.toArray}).get? h'.objs.size=some {cls:=.type "list",data:=.seq acc.toList.toArray}:=Heap.get?_push_size _ rfl
 have I2:L2.Inv X pins σ (upd H h'.objs.size (.lst (ns.map V.int))) {s with heap:=h'.push {cls:=.type "list",data:=.seq acc.toList.toArray},toks:=tk}:=
  I1.laid (t':=tk) (o:=.lst (ns.map V.int)) (fun b ob q=>Heap.get?_push_of_some _ q) (Nat.le_refl _) ⟨hlen2,acc.toList,0,hv,hob⟩
 have hi:=hv.ints
 refine wpAny_bind (wpAny_holding (wpAny_call_entry PyProof.Rows.slot_list_sort ⟨_,hob,rfl⟩ PyProof.Rows.entry_list_sort
  (PyProof.Rows.list_sort_tree hob hi (by rw[hi.length];exact h64) fun out ns' h1 h2 h3=>⟨.none,rfl,?_⟩) (PyProof.Rows.args_list_sort _)))
 obtain ⟨ep2,he'⟩:=PyProof.Rows.sortedHeap_at (vs:=acc.toList) (out:=out) hob
 have hlen3:(ns'.map V.int).length<=sizeLine:=by rw[List.length_map,h2.length_eq];exact MM h64
 refine wpAny_pure ⟨_,rfl,.ref h'.objs.size,upd H h'.objs.size (.lst (ns'.map V.int)),?_,rfl,q ns' _ h2 h3 hfr⟩
 have I3:=I2.write (e:=h'.objs.size) (x:=h'.objs.size) (t':=tk) (o:=.lst (ns'.map V.int)) (by rw[A4];trivial) (.inl rfl) (fun b u hb hu=>by rw[PyProof.Rows.sortedHeap_old hb (Heap.lt_size hu)];exact hu) ⟨_,he'⟩ ⟨hlen3,out.toList,ep2,Ls h1,he'⟩
 rw[C7]at I3
 exact I3
theorem UI (l:Addr) (us:Array Value) (n:Nat) (b:Addr) (ws:Array Value) (m:Nat) (dd:Option Addr) (sl:Array (Option Value)) (q0:¬(!us.isEmpty&&Builtin.List.listTooLong (us.size+ws.size))=true) (q1:us.size<=sizeLine) (q2:us.size+ws.size<=sizeLine+1):
  Meets (Builtin.«list.extend» ⟨[.ref l,.ref b],[]⟩) (fun _ R s=>s.heap.get? l=some {cls:=.type "list",dict:=none,data:=.seq us n,slots:=#[]}/\s.heap.get? b=some {cls:=.type "tuple",dict:=dd,data:=.seq ws m,slots:=sl}/\
   R (.ok (.ret Value.none)) {s with heap:=s.heap.update l (Obj.mapSeq fun x=>x++ws),toks:=s.toks}):=
 .of_wp fun prog w A R s hyp=>by
  obtain ⟨heap0,g0,d0,t0,os0⟩:=s
  obtain ⟨at_l,at_b,fin⟩:=hyp
  have g1:=AutoSeq1.idx_int
  have g2:=AutoSeq1.sub_tuple_tuple
  have g3:=AutoSeq1.sub_list_list
  have g4:=AutoSeq1.sub_tuple_list
  have g5:=AutoSeq1.sub_list_tuple
  have q3:(us++ws).size<=sizeLine+1:=by rw[Array.size_append];exact q2
  wp_walk using (wpAny_updateSeq at_l rfl (hz:=q1) (_hz':=q3)),AutoSeq1.wpAny_loadPart' at_l,AutoSeq1.wpAny_loadPart' at_b
  exact ⟨_,rfl,fin⟩
def R4:List V->Hp->VK->Prop:=fun xs H Q=>∃a kvs,xs=[V.ref a]/\H a=some (.dK kvs)/\∀p,H p=none->Q (.ref p) (upd H p (.dK kvs))
theorem XA:Gp X (.type "dict") R4:=by
 intro pins s σ H vs us Q I r h
 obtain ⟨a,kvs,rfl,ha,q⟩:=h
 rw[AS.ref1 r]
 exact Vt I (.inl ha) fun p s' hp I'=>⟨.ref p,_,I',rfl,q p hp⟩
def Ih (K:PySem.W.Frag):V->List V->Hp->VK->Prop:=fun x vs H Q=>∃l b xs zs,x=.ref l/\vs=[.ref b]/\H l=some (.lst xs)/\SqT K H b zs/\xs.length+zs.length<=sizeLine/\Q .non (upd H l (.lst (xs++zs)))
theorem UB:MtM X "list.extend" (Ih X.K):=by
 intro pins s σ H x vs v us Q I rx rv h
 obtain ⟨l,b,xs,zs,rfl,rfl,hH,hB,hz,q⟩:=h
 cases rx
 obtain ⟨u,rfl,ru⟩:=rv.one
 cases ru
 obtain ⟨z,its,n,r,hl,e⟩:=I.lstM hH
 obtain ⟨its2,r2,p2,z2⟩:=I.tuple hB
 obtain ⟨⟨cls2,dd2,data2,sl2⟩,ho2,hc2,n2,hd2⟩:=id p2
 have hl2:zs.length=its2.length:=r2.length
 have hsz:its.toArray.size+its2.toArray.size<=sizeLine:=by rw[List.size_toArray,List.size_toArray];omega
 have hlong:¬(!its.toArray.isEmpty&&Builtin.List.listTooLong (its.toArray.size+its2.toArray.size))=true:=by
  rw[S8 hsz,Bool.and_false]
  exact Bool.false_ne_true
 simp only at hc2 hd2
 subst hc2 hd2
 refine call_meets F.slot_list_extend ⟨_,e,rfl⟩ F.entry_list_extend (F.args_list_extend_2 _ _)
  (UI l its.toArray n b its2.toArray n2 dd2 sl2 hlong (by rw[List.size_toArray];omega) (by omega)) ⟨e,ho2,?_⟩
 refine ⟨.non,_,I.lset (its':=its++its2) hH e (by simp) (r.append r2) ?_,rfl,q⟩
 rw[List.length_append]
 omega
end
end Pz
end
section
namespace Pz
open PySem PySem.Spec PyProof.Rows L2
def top (i:Nat):Stmt:=PySem.Challenge.pw_patchstores_s01_answers.main.body.getD i (.Pass ⟨0,0,0,0⟩)
def AA (K:PySem.W.Frag) (mg:Str->Option Value) (x:Str) (st:Stmt) (ps:List Str):Prop:=∃f fd,Fun K x x st f fd/\mg x=some (.ref f)/\Binds K fd ps []
def OkF (P:Program) (w:World) (K:PySem.W.Frag) (mg:Str->Option Value) (base:Heap) (k:Nat) (x:Str) (ps:List Str) (sp:Sp):Prop:=
 ∃f fd,Ef P w K mg base CX0 k f fd ps sp/\mg x=some (.ref f)/\PySem.W.keepIn K (.ref f)=true/\Binds K fd ps []
section
variable {P:Program} {w:World} {K:PySem.W.Frag} {mg:Str->Option Value} {base:Heap}
theorem AA.ok {x:Str} {st:Stmt} {N ps:List Str} {k:Nat} {sp:Sp} (D:AA K mg x st ps) (S:AC N ps (A7 st)) (len:∀vs H Q E,sp vs H Q E->vs.length=ps.length)
  (hbody:∀(f:Addr) (cdv:Value) (A:Around) (outer:List Env) (s:Shared) (H:Hp) (vs:List V) (Q:VK) (E:XK),BK k (A.deeper (envOfC x (A7 st) s.heap.objs.size f cdv))->sp vs H Q E->
   ∃t,PSs (JX CX0 P w K mg base N x (A7 st) f cdv A outer s H E).nox (C8 st) t/\t {nx:=fun _ H'=>Q .non H',rt:=Q} (L2.start N vs) H):OkF P w K mg base (k+1) x ps sp:=by
 obtain ⟨f,fd,F,e,b⟩:=D
 exact ⟨f,fd,F.ok S len (fun cdv A outer s H vs Q E hr h=>hbody f cdv A outer s H vs Q E hr h),e,F.kp,b⟩
end
section
variable {X:Cx}
theorem AD {k:Nat} {x:Str} {ps:List Str} {sp:Sp} {p pos:Pos} {e:Expr} {es:List Expr} {t:TA} (F:OkF X.prog X.w X.K X.mg X.base k x ps sp) (hr:BK k X.A) (ha:PA X (e::es) t) (hg:Gl X x:=by rfl)
  (hdb:(x==("__debug__":Str))=false:=by decide) (he:starEach (e::es) X.env=(false,eval e X.env)::starEach es X.env:=by rfl) (hpl:(backTo pos (starEach es X.env)).any (·.1)=false:=by rfl):
  PE X (.Call (.Name x p) (e::es) [] pos) (O8 sp [] E0 t):=by
 obtain ⟨f,fd,F,e,kp,b⟩:=F
 exact XG F hr hg e kp b .nil OS ha hdb he hpl
theorem AI {x:Str} {i:Int} {pos:Pos} (h:∃t,X.mg x=some (.int i t)) (hg:Gl X x:=by rfl) (hd:(x==("__debug__":Str))=false:=by decide):PE X (.Name x pos) (tC (.int i)):=by
 obtain ⟨t,e⟩:=h
 exact X2 (v:=.int i) hg e ⟨t,rfl⟩ hd
end
def iN (n:Nat):V:=.int (n:Int)
def E2 (K:PySem.W.Frag) (H:Hp) (v:V) (l:List Nat):Prop:=∃a,v=.ref a/\SqT K H a (l.map iN)
def An (K:PySem.W.Frag) (H:Hp) (v:V):VapatBase.Step->Prop
 |.hunk f a o n=>∃p vo vn,v=.ref p/\SqT K H p [.int 0,iN f,iN a,vo,vn]/\E2 K H vo o/\E2 K H vn n
 |.swap f x y=>∃p,v=.ref p/\SqT K H p [.int 1,iN f,iN x,iN y]
 |.add f=>∃p,v=.ref p/\SqT K H p [.int 2,iN f]
 |.remove f=>∃p,v=.ref p/\SqT K H p [.int 3,iN f]
 |.move f g=>∃p,v=.ref p/\SqT K H p [.int 4,iN f,iN g]
def Cv (K:PySem.W.Frag) (H:Hp) (v:V) (p:Vapatc.Patch):Prop:=∃a u,v=.ref a/\SqT K H a [iN p.name,u]/\An K H u p.step
def BA (K:PySem.W.Frag) (H:Hp) (v:V) (r:Vapatc.Row):Prop:=∃a xs,v=.ref a/\H a=some (.lst xs)/\Paired (Cv K H) xs r
def AQ (K:PySem.W.Frag) (H H':Hp):Prop:=∀b xs,SqT K H b xs->SqT K H' b xs
theorem AQ.of {K:PySem.W.Frag} {H H':Hp} (e:A1 H H'):AQ K H H':=fun b xs h=>A1.tup e h
theorem AQ.trans {K:PySem.W.Frag} {H H1 H2:Hp} (a:AQ K H H1) (b:AQ K H1 H2):AQ K H H2:=fun c xs h=>b c xs (a c xs h)
theorem AQ.upd {K:PySem.W.Frag} {H:Hp} {D:Addr} {o u:HO} (h:H D=some o) (n1:∀xs,o≠.tup xs) (n2:∀p xs,o≠.frz p (.tup xs)):AQ K H (upd H D u):=fun b xs q=>by
 rcases q with (q|⟨p,q⟩)|q
 ·refine .inl (.inl ?_)
  rw[A8]
  ·exact q
  ·rintro rfl
   rw[h]at q
   exact n1 xs (Option.some.inj q)
 ·refine .inl (.inr ⟨p,?_⟩)
  rw[A8]
  ·exact q
  ·rintro rfl
   rw[h]at q
   exact n2 p xs (Option.some.inj q)
 ·exact .inr q
theorem AQ.lst {K:PySem.W.Frag} {H:Hp} {D:Addr} {xs:List V} {u:HO} (h:H D=some (.lst xs)):AQ K H (L2.upd H D u):=AQ.upd h (fun _ e=>nomatch e) (fun _ _ e=>nomatch e)
section
variable {K:PySem.W.Frag} {H H':Hp}
theorem E2.t {v:V} {l:List Nat} (e:AQ K H H') (h:E2 K H v l):E2 K H' v l:=by
 obtain ⟨a,rfl,h⟩:=h
 exact ⟨a,rfl,e _ _ h⟩
theorem An.t {v:V} {p:VapatBase.Step} (e:AQ K H H') (h:An K H v p):An K H' v p:=by
 cases p with
 |hunk f a o n=>
  obtain ⟨p,vo,vn,rfl,h,h1,h2⟩:=h
  exact ⟨p,vo,vn,rfl,e _ _ h,h1.t e,h2.t e⟩
 |swap f x y=>
  obtain ⟨p,rfl,h⟩:=h
  exact ⟨p,rfl,e _ _ h⟩
 |add f=>
  obtain ⟨p,rfl,h⟩:=h
  exact ⟨p,rfl,e _ _ h⟩
 |remove f=>
  obtain ⟨p,rfl,h⟩:=h
  exact ⟨p,rfl,e _ _ h⟩
 |move f g=>
  obtain ⟨p,rfl,h⟩:=h
  exact ⟨p,rfl,e _ _ h⟩
theorem Cv.t {v:V} {p:Vapatc.Patch} (e:AQ K H H') (h:Cv K H v p):Cv K H' v p:=by
 obtain ⟨a,u,rfl,h,h1⟩:=h
 exact ⟨a,u,rfl,e _ _ h,h1.t e⟩
theorem pats.t {xs:List V} {r:Vapatc.Row} (e:AQ K H H') (h:Paired (Cv K H) xs r):Paired (Cv K H') xs r:=L2.Paired.mapP h fun _ _ z=>z.t e
theorem E2.same {v:V} {l:List Nat} (e:A1 H H') (h:E2 K H v l):E2 K H' v l:=h.t (.of e)
theorem An.same {v:V} {p:VapatBase.Step} (e:A1 H H') (h:An K H v p):An K H' v p:=h.t (.of e)
theorem Cv.same {v:V} {p:Vapatc.Patch} (e:A1 H H') (h:Cv K H v p):Cv K H' v p:=h.t (.of e)
theorem pats.same {xs:List V} {r:Vapatc.Row} (e:A1 H H') (h:Paired (Cv K H) xs r):Paired (Cv K H') xs r:=pats.t (.of e) h
theorem BA.same {v:V} {r:Vapatc.Row} (e:A1 H H') (h:BA K H v r):BA K H' v r:=by
 obtain ⟨a,xs,rfl,h,h1⟩:=h
 exact ⟨a,xs,rfl,e _ _ h,pats.same e h1⟩
end
structure Walks (J:It) (xs:List V) (H1:Hp):Prop where
 go:∀H' i,A1 H1 H'->i<xs.length->J.go i H'
 yld:∀H' i x H2,A1 H1 H'->i<xs.length->J.yld i H' x H2->H2=H'/\xs[i]?=some x
 stop:∀H',A1 H1 H'->J.stop xs.length H'
theorem QA {K:PySem.W.Frag} {H1:Hp} {a:Addr} {xs:List V} (h:SqT K H1 a xs):Walks (Itt K a) xs H1 where
 go:=fun H' i e hi=>⟨xs,xs[i],A1.tup e h,by simp[hi]⟩
 yld:=fun H' i x H2 e hi ⟨e1,q⟩=>⟨e1,q xs (A1.tup e h)⟩
 stop:=fun H' e=>⟨xs,A1.tup e h,Nat.le_refl _⟩
theorem Ay {K:PySem.W.Frag} {H1:Hp} {a:Addr} {xs:List V} (h:SqL K H1 a xs):Walks (Itl K a) xs H1 where
 go:=fun H' i e hi=>⟨xs,xs[i],e.seq h,by simp[hi]⟩
 yld:=fun H' i x H2 e hi ⟨e1,q⟩=>⟨e1,q xs (e.seq h)⟩
 stop:=fun H' e=>⟨xs,e.seq h,Nat.le_refl _⟩
theorem Pl {K:PySem.W.Frag} {H1:Hp} {a:Addr} {xs:List V} (h:SqL K H1 a xs):Walks (Itv K a xs.length) xs.reverse H1 where
 go:=fun H' i e hi=>by
  rw[List.length_reverse]at hi
  exact ⟨hi,xs,xs[xs.length - 1 - i]'(by omega),e.seq h,by simp⟩
 yld:=fun H' i x H2 e hi ⟨e1,q⟩=>by
  rw[List.length_reverse]at hi
  refine ⟨e1,?_⟩
  rw[List.getElem?_reverse hi]
  exact q xs (e.seq h)
 stop:=fun H' e=>by
  rw[List.length_reverse]
  exact Nat.le_refl _
theorem Gr {lo:Int} {n:Nat} {H1:Hp}:Walks (Itr lo n) ((List.range n).map fun i=>V.int (lo+(i:Nat))) H1 where
 go:=fun H' i e hi=>by
  show i<n
  simpa using hi
 yld:=fun H' i x H2 e hi ⟨e1,e2⟩=>by
  subst e2
  refine ⟨e1,?_⟩
  simp at hi
  simp[hi]
 stop:=fun H' e=>by
  show n<=_
  simp
theorem DM {α β:Type} {F:α->β->Prop}:∀{l:List α} {m:List β} {a:α} {b:β},Paired F l m->F a b->Paired F (l++[a]) (m++[b])
 |_,_,_,_,.nil,h=>.cons h .nil
 |_,_,_,_,.cons r t,h=>.cons r (DM t h)
theorem Ai {α:Type} {l:List α} {i:Nat} {x:α} (h:l[i]?=some x):l.take (i+1)=l.take i++[x]:=by
 obtain ⟨hi,e⟩:=List.getElem?_eq_some_iff.mp h
 rw[List.take_succ,h]
 rfl
def Rs (J:It) (H1:Hp) (g:TG) (tt:TT) (te:TE) (vs:List Nat) (σ:L2.St) (Q:VK):Prop:=
  ∀D,H1 D=none->∃W:Nat->Nat->Hp->Prop,(∃m,W 0 m (upd H1 D (.lst [])))/\∀i m H,W i m H->
 (J.stop i H/\Q (.ref D) H)\/(J.go i H/\∃Nx:Hp->Prop,(∀H',Nx H'->∃m',m'<m/\W (i+1) m' H')/\∀x H',J.yld i H x H'->g x (BQ σ vs) H' fun σ2 H2=>BQ σ2 vs=BQ σ vs/\tt σ2 H2 fun b H3=>
  if b=true then te σ2 H3 fun y H4=>∃acc,H4 D=some (.lst acc)/\acc.length<sizeLine/\Nx (upd H4 D (.lst (acc++[y]))) else Nx H3)
theorem RV (wi:TI) (g:TG) (tt:TT) (te:TE) (vs:List Nat) (σ:L2.St) (H:Hp) (Q:VK):tLc wi g tt te vs σ H Q=wi σ H fun J H1=>Rs J H1 g tt te vs σ Q:=rfl
theorem lcG (K:PySem.W.Frag) {J:It} {xs:List V} {H1:Hp} {g:TG} {tt:TT} {te:TE} {vs:List Nat} {σ:L2.St} {Q:VK} {R:Hp->V->V->Prop} {keep:V->Bool} (Wk:Walks J xs H1) (hl:xs.length<sizeLine)
  (mono:∀H H' x y,AQ K H H'->R H x y->R H' x y)
  (he:∀x∈xs,∀H',A1 H1 H'->∀(Qe:VK) (Qn:Hp->Prop),(keep x=true->∀y H4,A1 H' H4->R H4 x y->Qe y H4)->(keep x=false->∀H4,A1 H' H4->Qn H4)->
   g x (BQ σ vs) H' fun σ2 H2=>BQ σ2 vs=BQ σ vs/\tt σ2 H2 fun b H3=>if b=true then te σ2 H3 Qe else Qn H3)
  (hQ:∀D H' ys,A1 H1 H'->H' D=some (.lst ys)->Paired (R H') (xs.filter keep) ys->Q (.ref D) H'):
  Rs J H1 g tt te vs σ Q:=by
 intro D hD
 have up:∀{H':Hp} {o:HO},A1 H1 H'->A1 H1 (upd H' D o):=fun {H' o} e b u q=>by
  rw[A8 (AV q hD)]
  exact e b u q
 refine ⟨fun i m H=>m=xs.length - i/\i<=xs.length/\A1 H1 H/\∃ys,H D=some (.lst ys)/\Paired (R H) ((xs.take i).filter keep) ys,⟨xs.length,by simp,Nat.zero_le _,A1.new hD,[],A4,.nil⟩,?_⟩
 rintro i m H ⟨rfl,hi,e,ys,hy,hp⟩
 by_cases hlt:i<xs.length
 ·refine .inr ⟨Wk.go H i e hlt,fun H'=>i+1<=xs.length/\A1 H1 H'/\∃ys,H' D=some (.lst ys)/\Paired (R H') ((xs.take (i+1)).filter keep) ys,fun H' p'=>⟨xs.length - (i+1),by omega,rfl,p'⟩,fun x H' y=>?_⟩
  obtain ⟨rfl,hx⟩:=Wk.yld H i x H' e hlt y
  have hlen:ys.length<=i:=by
   rw[<-Paired.length hp]
   refine Nat.le_trans (List.length_filter_le _ _) ?_
   rw[List.length_take]
   exact Nat.min_le_left _ _
  refine he x (List.mem_of_getElem? hx) _ e _ _ (fun k y H4 e4 r=>?_) (fun k H4 e4=>?_)
  ·have h4:=e4 _ _ hy
   refine ⟨ys,h4,by omega,hlt,up (e.trans e4),ys++[y],A4,?_⟩
   rw[Ai hx,List.filter_append,List.filter_cons_of_pos k]
   have t1:AQ K H4 (upd H4 D (.lst (ys++[y]))):=AQ.lst h4
   exact DM (L2.Paired.mapP hp fun _ _ z=>mono _ _ _ _ ((AQ.of e4).trans t1) z) (mono _ _ _ _ t1 r)
  ·refine ⟨hlt,e.trans e4,ys,e4 _ _ hy,?_⟩
   rw[Ai hx,List.filter_append,List.filter_cons_of_neg (by simp[k]),List.filter_nil,List.append_nil]
   exact L2.Paired.mapP hp fun _ _ z=>mono _ _ _ _ (AQ.of e4) z
 ·have ei:i=xs.length:=by omega
  subst ei
  rw[List.take_length]at hp
  exact .inl ⟨Wk.stop H e,hQ D H ys e hy hp⟩
theorem Lm {α:Type} (K:PySem.W.Frag) {as:List α} {F:V->α->Prop} {J:It} {xs:List V} {H1:Hp} {g:TG} {tt:TT} {te:TE} {vs:List Nat} {σ:L2.St} {Q:VK} {R:Hp->α->V->Prop} {keep:α->Bool} (Wk:Walks J xs H1) (hF:Paired F xs as) (hl:xs.length<sizeLine)
  (mono:∀H H' x y,AQ K H H'->R H x y->R H' x y)
  (he:∀x a,F x a->a∈as->∀H',A1 H1 H'->∀(Qe:VK) (Qn:Hp->Prop),(keep a=true->∀y H4,A1 H' H4->R H4 a y->Qe y H4)->(keep a=false->∀H4,A1 H' H4->Qn H4)->
   g x (BQ σ vs) H' fun σ2 H2=>BQ σ2 vs=BQ σ vs/\tt σ2 H2 fun b H3=>if b=true then te σ2 H3 Qe else Qn H3)
  (hQ:∀D H' ys,A1 H1 H'->H' D=some (.lst ys)->Paired (R H') (as.filter keep) ys->Q (.ref D) H'):
  Rs J H1 g tt te vs σ Q:=by
 intro D hD
 have up:∀{H':Hp} {o:HO},A1 H1 H'->A1 H1 (upd H' D o):=fun {H' o} e b u q=>by
  rw[A8 (AV q hD)]
  exact e b u q
 refine ⟨fun i m H=>m=xs.length - i/\i<=xs.length/\A1 H1 H/\∃ys,H D=some (.lst ys)/\Paired (R H) ((as.take i).filter keep) ys,⟨xs.length,by simp,Nat.zero_le _,A1.new hD,[],A4,.nil⟩,?_⟩
 rintro i m H ⟨rfl,hi,e,ys,hy,hp⟩
 by_cases hlt:i<xs.length
 ·refine .inr ⟨Wk.go H i e hlt,fun H'=>i+1<=xs.length/\A1 H1 H'/\∃ys,H' D=some (.lst ys)/\Paired (R H') ((as.take (i+1)).filter keep) ys,fun H' p'=>⟨xs.length - (i+1),by omega,rfl,p'⟩,fun x H' y=>?_⟩
  obtain ⟨rfl,hx⟩:=Wk.yld H i x H' e hlt y
  obtain ⟨a,ha,hxa⟩:=By hF hx
  have hlen:ys.length<=i:=by
   rw[<-Paired.length hp]
   refine Nat.le_trans (List.length_filter_le _ _) ?_
   rw[List.length_take]
   exact Nat.min_le_left _ _
  refine he x a hxa (List.mem_of_getElem? ha) _ e _ _ (fun k y H4 e4 r=>?_) (fun k H4 e4=>?_)
  ·have h4:=e4 _ _ hy
   refine ⟨ys,h4,by omega,hlt,up (e.trans e4),ys++[y],A4,?_⟩
   rw[Ai ha,List.filter_append,List.filter_cons_of_pos k]
   have t1:AQ K H4 (upd H4 D (.lst (ys++[y]))):=AQ.lst h4
   exact DM (L2.Paired.mapP hp fun _ _ z=>mono _ _ _ _ ((AQ.of e4).trans t1) z) (mono _ _ _ _ t1 r)
  ·refine ⟨hlt,e.trans e4,ys,e4 _ _ hy,?_⟩
   rw[Ai ha,List.filter_append,List.filter_cons_of_neg (by simp[k]),List.filter_nil,List.append_nil]
   exact L2.Paired.mapP hp fun _ _ z=>mono _ _ _ _ (AQ.of e4) z
 ·have ei:i=xs.length:=by omega
  subst ei
  rw[Paired.length hF,List.take_length]at hp
  exact .inl ⟨Wk.stop H e,hQ D H ys e hy hp⟩
def MC (J:It) (H1:Hp) (g:TG) (tb:TS) (D:JW) (σ:L2.St):Prop:=
 ∃W:Nat->Nat->L2.St->Hp->Prop,(∃m,W 0 m σ H1)/\∀i m σ H,W i m σ H->
 (J.stop i H/\D.nx σ H)\/(J.go i H/\∃N:L2.St->Hp->Prop,(∀σ' H',N σ' H'->∃m',m'<m/\W (i+1) m' σ' H')/\∀x H',J.yld i H x H'->g x σ H' fun σ2 H2=>tb {D with nx:=N,ct:=N,bk:=D.nx} σ2 H2)
theorem PH (wi:TI) (g:TG) (tb:TS) (D:JW) (σ:L2.St) (H:Hp):Xy wi g tb D σ H=wi σ H fun J H1=>MC J H1 g tb D σ:=rfl
theorem SM {lo c:Int} {n:Nat} {H1:Hp}:Walks (Itc lo c n) ((List.range n).map fun i=>V.int (lo+(i:Nat)*c)) H1 where
 go:=fun H' i e hi=>by
  show i<n
  simpa using hi
 yld:=fun H' i x H2 e hi ⟨e1,e2⟩=>by
  subst e2
  refine ⟨e1,?_⟩
  simp at hi
  simp[hi]
 stop:=fun H' e=>by
  show n<=_
  simp
theorem FX {J:It} {xs:List V} {H0 H1:Hp} {g:TG} {tb:TS} {D:JW} {σ:L2.St} (Wk:Walks J xs H0) (Pv:Nat->L2.St->Hp->Prop) (h0:Pv 0 σ H1) (same:∀i σ H,Pv i σ H->A1 H0 H)
  (hs:∀i x σ H,xs[i]?=some x->Pv i σ H->g x σ H fun σ2 H2=>tb {D with nx:=Pv (i+1),ct:=Pv (i+1),bk:=D.nx} σ2 H2) (hd:∀σ H,Pv xs.length σ H->D.nx σ H):MC J H1 g tb D σ:=by
 refine ⟨fun i m σ H=>m=xs.length - i/\i<=xs.length/\Pv i σ H,⟨xs.length,by simp,Nat.zero_le _,h0⟩,?_⟩
 rintro i m σ H ⟨rfl,hi,p⟩
 have e:=same i σ H p
 by_cases hlt:i<xs.length
 ·refine .inr ⟨Wk.go H i e hlt,Pv (i+1),fun σ' H' p'=>⟨xs.length - (i+1),by omega,rfl,hlt,p'⟩,fun x H' y=>?_⟩
  obtain ⟨rfl,hx⟩:=Wk.yld H i x H' e hlt y
  exact hs i x σ _ hx p
 ·have ei:i=xs.length:=by omega
  subst ei
  exact .inl ⟨Wk.stop H e,hd σ H p⟩
theorem WQ {K:PySem.W.Frag} {a:Addr} {xs:List V} {H0 H1:Hp} {g:TG} {tb:TS} {D:JW} {σ:L2.St} (ha:SqL K H0 a xs) (Pv:Nat->L2.St->Hp->Prop) (h0:Pv 0 σ H1) (same:∀i σ H,Pv i σ H->A1 H0 H)
  (hs:∀i x T σ H,xs[i]?=some x->Pv i σ H->H T=none->g (.ref T) σ (upd H T (.tup [.int (i:Nat),x])) fun σ2 H2=>tb {D with nx:=Pv (i+1),ct:=Pv (i+1),bk:=D.nx} σ2 H2) (hd:∀σ H,Pv xs.length σ H->D.nx σ H):MC (Ite K a) H1 g tb D σ:=by
 refine ⟨fun i m σ H=>m=xs.length - i/\i<=xs.length/\Pv i σ H,⟨xs.length,by simp,Nat.zero_le _,h0⟩,?_⟩
 rintro i m σ H ⟨rfl,hi,p⟩
 have q:=(same i σ H p).seq ha
 by_cases hlt:i<xs.length
 ·refine .inr ⟨⟨xs,xs[i],q,by simp[hlt]⟩,Pv (i+1),fun σ' H' p'=>⟨xs.length - (i+1),by omega,rfl,hlt,p'⟩,fun x H' y=>?_⟩
  obtain ⟨T,z,rfl,hT,rfl,hz⟩:=y
  exact hs i z T σ H (hz xs q) p hT
 ·have ei:i=xs.length:=by omega
  subst ei
  exact .inl ⟨⟨xs,q,Nat.le_refl _⟩,hd σ H p⟩
theorem A1.put {H H1:Hp} {c:Addr} {o:HO} (e:A1 H H1) (h:H c=none):A1 H (L2.upd H1 c o):=fun b u q=>by
 rw[A8 (AV q h)]
 exact e b u q
theorem ifT {c A B:Prop} [Decidable c] (h:c) (a:A):if c then A else B:=by rw[if_pos h];exact a
theorem ifF {c A B:Prop} [Decidable c] (h:¬c) (b:B):if c then A else B:=by rw[if_neg h];exact b
theorem szl {n:Nat} (h:n<=100000):n<sizeLine:=by rw[sizeLine_eq];omega
theorem AX {n:Nat} (h:n<=100000):n<=sizeLine:=Nat.le_of_lt (szl h)
theorem DN {α:Type} (l:List α):l.filter (fun _=>true)=l:=by simp
theorem Hs {α:Type} {f:α->V} {g:α->V} {R:V->V->Prop} (hR:∀x y,R (f x) y->y=g x):∀{l:List α} {ys:List V},Paired R (l.map f) ys->ys=l.map g
 |[],_,h=>by cases h;rfl
 |x::l,_,h=>by
  cases h with
  |cons r t=>rw[hR _ _ r,Hs hR t];rfl
structure Txt (K:PySem.W.Frag) (mg:Str->Option Value):Prop where
 MOST_FILE_NAME:∃t,mg "MOST_FILE_NAME"=some (.int 9 t)
 MOST_TOKEN:∃t,mg "MOST_TOKEN"=some (.int 99 t)
 HUNK:∃t,mg "HUNK"=some (.int 0 t)
 SWAP:∃t,mg "SWAP"=some (.int 1 t)
 ADDED:∃t,mg "ADDED"=some (.int 2 t)
 REMOVED:∃t,mg "REMOVED"=some (.int 3 t)
 MOVED:∃t,mg "MOVED"=some (.int 4 t)
 MOST_PLACE:∃t,mg "MOST_PLACE"=some (.int 1000 t)
 MOST_HUNK_TOKENS:∃t,mg "MOST_HUNK_TOKENS"=some (.int 8 t)
 len:mg "len"=none
 any:mg "any"=none
 all:mg "all"=none
 list:mg "list"=none
 tuple:mg "tuple"=none
 sorted:mg "sorted"=none
 range:mg "range"=none
 enumerate:mg "enumerate"=none
 reversed:mg "reversed"=none
 dict:mg "dict"=none
theorem Rr {CX:CXT} {P:Program} {w:World} {K:PySem.W.Frag} {mg:Str->Option Value} {base:Heap} {N:List Str} {qual:Str} {scope:Scope} {f:Addr} {cd:Value} {A:Around} {outer:List Env} {s:Shared} {H:Hp} {E:XK}:(JX CX P w K mg base N qual scope f cd A outer s H E).K=K:=rfl
end Pz
end
section
namespace Pz
open PySem PySem.Spec PyProof.Rows L2
def MethAt (K:PySem.W.Frag) (C:Addr) (m qual:Str) (st:Stmt) (ps:List Str):Prop:=∃f fd,Fun K m qual st f fd/\PN K C m f/\Binds K fd ps []
def Ed (K:PySem.W.Frag) (mg:Str->Option Value) (C:Addr) (x qual:Str) (st:Stmt) (ps:List Str):Prop:=∃f fd,Fun K "__init__" qual st f fd/\Mk K C f/\mg x=some (.ref C)/\Binds K fd ps []
def OkM (P:Program) (w:World) (K:PySem.W.Frag) (mg:Str->Option Value) (base:Heap) (k:Nat) (C:Addr) (m:Str) (ps:List Str) (sp:Sp):Prop:=
 ∃f fd,Ef P w K mg base CX0 k f fd ps sp/\PN K C m f/\Binds K fd ps []
def OkI (P:Program) (w:World) (K:PySem.W.Frag) (mg:Str->Option Value) (base:Heap) (k:Nat) (C:Addr) (x:Str) (ps:List Str) (sp:Sp):Prop:=
 ∃f fd,Ef P w K mg base CX0 k f fd ps sp/\Mk K C f/\mg x=some (.ref C)/\Binds K fd ps []
section
variable {P:Program} {w:World} {K:PySem.W.Frag} {mg:Str->Option Value} {base:Heap}
theorem MethAt.ok {C:Addr} {m qual:Str} {st:Stmt} {N ps:List Str} {k:Nat} {sp:Sp} (D:MethAt K C m qual st ps) (S:AC N ps (A7 st)) (len:∀vs H Q E,sp vs H Q E->vs.length=ps.length)
  (hbody:∀(f:Addr) (cdv:Value) (A:Around) (outer:List Env) (s:Shared) (H:Hp) (vs:List V) (Q:VK) (E:XK),BK k (A.deeper (envOfC qual (A7 st) s.heap.objs.size f cdv))->sp vs H Q E->
   ∃t,PSs (JX CX0 P w K mg base N qual (A7 st) f cdv A outer s H E).nox (C8 st) t/\t {nx:=fun _ H'=>Q .non H',rt:=Q} (L2.start N vs) H):OkM P w K mg base (k+1) C m ps sp:=by
 obtain ⟨f,fd,F,e,b⟩:=D
 exact ⟨f,fd,F.ok S len (fun cdv A outer s H vs Q E hr h=>hbody f cdv A outer s H vs Q E hr h),e,b⟩
theorem Ed.ok {C:Addr} {x qual:Str} {st:Stmt} {N ps:List Str} {k:Nat} {sp:Sp} (D:Ed K mg C x qual st ps) (S:AC N ps (A7 st)) (len:∀vs H Q E,sp vs H Q E->vs.length=ps.length)
  (hbody:∀(f:Addr) (cdv:Value) (A:Around) (outer:List Env) (s:Shared) (H:Hp) (vs:List V) (Q:VK) (E:XK),BK k (A.deeper (envOfC qual (A7 st) s.heap.objs.size f cdv))->sp vs H Q E->
   ∃t,PSs (JX CX0 P w K mg base N qual (A7 st) f cdv A outer s H E).nox (C8 st) t/\t {nx:=fun _ H'=>Q .non H',rt:=Q} (L2.start N vs) H):OkI P w K mg base (k+1) C x ps sp:=by
 obtain ⟨f,fd,F,M,e,b⟩:=D
 exact ⟨f,fd,F.ok S len (fun cdv A outer s H vs Q E hr h=>hbody f cdv A outer s H vs Q E hr h),M,e,b⟩
end
section
variable {X:Cx} {C:Addr} {k:Nat} {x m:Str} {ps:List Str} {sp:Sp} {p pos apos:Pos} {o e:Expr} {es:List Expr} {ta:TE} {t:TA}
theorem Bl {pl:Sem Bool} (F:OkM X.prog X.w X.K X.mg X.base k C m ps sp) (c:Cls X.K C) (hr:BK k X.A) (he:PE X o ta) (ha:PA X (e::es) t)
  (hst:starEach (e::es) X.env=(false,eval e X.env)::starEach es X.env:=by rfl) (hpl:(backTo pos (starEach es X.env)).any (·.1)=false:=by rfl)
  (ht:eval (.Call (.Attribute o m apos) (e::es) [] pos) X.env=(do
   let ov <-eval o X.env
   standAt apos.atName
   let (f,first) <-holding [ov] (getMethod ov m pl)
   callWith pos f first (backTo pos (starEach (e::es) X.env)) (backToKw pos (keywordEach [] X.env))):=by rfl):
  PE X (.Call (.Attribute o m apos) (e::es) [] pos) (Kb C m sp [] E0 ta t):=by
 obtain ⟨f,fd,F,hm,b⟩:=F
 exact XC (pl:=pl) he c hm F hr b .nil OS ha hst hpl ht
theorem Cc {pl:Sem Bool} (F:OkM X.prog X.w X.K X.mg X.base k C m ps sp) (c:Cls X.K C) (hr:BK k X.A) (he:PE X o ta)
  (ht:eval (.Call (.Attribute o m apos) [] [] pos) X.env=(do
   let ov <-eval o X.env
   standAt apos.atName
   let (f,first) <-holding [ov] (getMethod ov m pl)
   callWith pos f first (backTo pos (starEach [] X.env)) (backToKw pos (keywordEach [] X.env))):=by rfl):
  PE X (.Call (.Attribute o m apos) [] [] pos) (Kb C m sp [] E0 ta Lz):=by
 obtain ⟨f,fd,F,hm,b⟩:=F
 exact WX (pl:=pl) he c hm F hr b .nil OS ht
theorem Wn (F:OkI X.prog X.w X.K X.mg X.base k C x ps sp) (hr:BK (k+1) X.A) (ha:PA X (e::es) t) (hg:Gl X x:=by rfl)
  (hdb:(x==("__debug__":Str))=false:=by decide) (he:starEach (e::es) X.env=(false,eval e X.env)::starEach es X.env:=by rfl) (hpl:(backTo pos (starEach es X.env)).any (·.1)=false:=by rfl):
  PE X (.Call (.Name x p) (e::es) [] pos) (KI C sp [] E0 t):=by
 obtain ⟨f,fd,F,M,e,b⟩:=F
 exact XW M F hr hg e b .nil OS ha hdb he hpl
theorem Xw (F:OkI X.prog X.w X.K X.mg X.base k C x ps sp) (hr:BK (k+1) X.A) (hg:Gl X x:=by rfl) (hdb:(x==("__debug__":Str))=false:=by decide):PE X (.Call (.Name x p) [] [] pos) (KI C sp [] E0 Lz):=by
 obtain ⟨f,fd,F,M,e,b⟩:=F
 exact WO M F hr hg e b .nil OS hdb
end
def But (S:Addr->Prop) (H H':Hp):Prop:=∀b o,H b=some o->¬S b->H' b=some o
theorem A1.but {S:Addr->Prop} {H H':Hp} (e:A1 H H'):But S H H':=fun b o h _=>e b o h
theorem But.trans {S:Addr->Prop} {H H1 H2:Hp} (a:But S H H1) (b:But S H1 H2):But S H H2:=fun c o h n=>b c o (a c o h n) n
theorem But.upd {S:Addr->Prop} {H:Hp} {a:Addr} {o:HO} (h:S a):But S H (L2.upd H a o):=fun b u q n=>by
 have hne:b≠a:=fun e=>n (by rw[e];exact h)
 rw[A8 hne]
 exact q
end Pz
end
namespace Pz
open PySem PySem.Spec PyProof.Rows L2
local macro_rules | `(tactic| trivial) => `(tactic| simp only [UR, U3, Ur, UO, Qr, PY, Qq, KG, Ld, rI0, rI, rU, tC, Rp, tOp, tUn, tB, O6, UP, U0, tOr, tIf, Ut, R3, UK, UM, Qw, O8, tCB, R1, Lz, Uc, UN, tSl, Qz, MH, B6, AU, tBM, ME, M8, Ih, Rr, HZ, Ig, U2, Uk, Uh, Qy, UU, RV, SG, PH, Qv, Qj, Qx, Qu, RY, Qp, Uo, U5, Qo, UV, Us, Pa, t2I, Ql, Jt, OB, Qm, UZ, MN, Qi, OA, S1, Um, Kb, KI, KL, R4, U9, Ud, KR, rIn, V.int.injEq,
 L2.start,List.map_cons,List.map_nil,List.length_cons,List.length_nil,List.cons_append,List.nil_append,List.append_nil,List.getElem?_cons_zero,List.getElem?_cons_succ,List.set_cons_zero,List.set_cons_succ,Option.some.injEq,exists_eq_left',exists_eq_left,V.int.injEq,V.bl.injEq,V.ref.injEq,exists_and_left,exists_eq_right,exists_eq_right',exists_and_right,exists_eq',true_and,decide_eq_true_eq,Bool.not_eq_true',decide_eq_false_iff_not,List.replicate,Nat.sub_self,Nat.zero_add,Nat.reduceAdd,Nat.reduceSub,List.cons.injEq,and_true,if_true,Bool.false_eq_true,if_false,Bool.not_true,Bool.not_false,ite_true,ite_false,reduceIte])
local macro_rules | `(tactic| nofun) => `(tactic| first | exact Or.inl rfl | exact Or.inr rfl)
local macro_rules | `(tactic| ac_rfl) => `(tactic| ((repeat (first | rw [B8, if_pos rfl] | rw [B8, if_neg (by decide)])); try rfl))
section
section
variable {P:Program} {w:World} {K:PySem.W.Frag} {mg:Str->Option Value} {base:Heap}
abbrev Ff:Stmt:=top 3
theorem NW:AC ["number"] ["number"] (A7 Ff):=⟨rfl,rfl,rfl,by decide+kernel,rfl,by decide+kernel,by decide+kernel⟩
def CV:Sp:=fun vs H Q _=>∃(n:Int),vs=[.int n]/\Q (.bl (decide (0<=n)&&decide (n<=9))) H
theorem NX (T:Txt K mg) (D:AA K mg "is_file_name" Ff ["number"]):OkF P w K mg base 1 "is_file_name" ["number"] CV:=by
 refine D.ok NW (fun vs H Q E h=>?_) (fun f cdv A outer s H vs Q E hr h=>?_)
 ·obtain ⟨n,rfl,_⟩:=h
  rfl
 ·obtain ⟨n,rfl,k⟩:=h
  refine ⟨_,(A5 (A6 (Rt CN CN A9 (pv 0) (AI T.MOST_FILE_NAME)))),?_⟩
  trivial
  by_cases c:0<=n<;>simp only[c,if_true,if_false,decide_true,decide_false,Bool.true_and,Bool.false_and]at k ⊢<;>exact k
abbrev JF:Stmt:=top 4
theorem SR:AC ["number"] ["number"] (A7 JF):=⟨rfl,rfl,rfl,by decide+kernel,rfl,by decide+kernel,by decide+kernel⟩
def JG:Sp:=fun vs H Q _=>∃(n:Int),vs=[.int n]/\Q (.bl (decide (0<=n)&&decide (n<=99))) H
theorem SS (T:Txt K mg) (D:AA K mg "is_token" JF ["number"]):OkF P w K mg base 1 "is_token" ["number"] JG:=by
 refine D.ok SR (fun vs H Q E h=>?_) (fun f cdv A outer s H vs Q E hr h=>?_)
 ·obtain ⟨n,rfl,_⟩:=h
  rfl
 ·obtain ⟨n,rfl,k⟩:=h
  refine ⟨_,(A5 (A6 (Rt CN CN A9 (pv 0) (AI T.MOST_TOKEN)))),?_⟩
  trivial
  by_cases c:0<=n<;>simp only[c,if_true,if_false,decide_true,decide_false,Bool.true_and,Bool.false_and]at k ⊢<;>exact k
abbrev Ek:Stmt:=top 5
theorem DW:AC ["numbers","place","most","count","tokens","token"] ["numbers","place","most"] (A7 Ek):=⟨rfl,rfl,rfl,by decide+kernel,rfl,by decide+kernel,by decide+kernel⟩
def GI (K:PySem.W.Frag):Sp:=fun vs H Q _=>∃(a:Addr) (ns:List Int) (p m:Nat),vs=[.ref a,iN p,iN m]/\SqL K H a (ns.map V.int)/\ns.length<=5000/\
 (∀H',A1 H H'->VapatBase.readTokens m (ns.drop p)=none->Q .non H')/\(∀H' v l r,A1 H H'->VapatBase.readTokens m (ns.drop p)=some (l,r)->E2 K H' v l->Q v H')
theorem Oh (T:Txt K mg) (D:AA K mg "read_tokens" Ek ["numbers","place","most"]) (Dl:OkF P w K mg base 1 "is_token" ["number"] JG):OkF P w K mg base 2 "read_tokens" ["numbers","place","most"] (GI K):=by
 refine D.ok DW (fun vs H Q E h=>?_) (fun f cdv A outer s H vs Q E hr h=>?_)
 ·obtain ⟨a,ns,p,m,rfl,_⟩:=h
  rfl
 ·obtain ⟨a,ns,p,m,rfl,hS,hlen,k1,k2⟩:=h
  refine ⟨_,(A2 (AH (BZ Uq (pv 1) (AN AJ (by rfl) T.len PySem.boot_len (A0 (pv 0) A3)) (DI _))
   (A5 (A6 At))
   AB)
   (A2 (AE (i:=3) DW.nd rfl (by nofun) (AF (r:=B6 K) Ak (pv 0) (pv 1) (fun _ _=>rfl)))
   (A2 (AH (PW.pt (Ce (Bd (Ej CN CN A9 (pv 3) (pv 2))) (Cs (BZ UJ (As Bk (As Bk (pv 1) A9) (pv 3)) (AN AJ (by rfl) T.len PySem.boot_len (A0 (pv 0) A3)) (DI _)))))
   (A5 (A6 At))
   AB)
   (A2 (AE (i:=4) DW.nd rfl (by nofun) (Cg E4 (by rfl) T.tuple PyProof.Rows.boot_tuple (A0 (Bh (r:=HZ K) Fa (pv 0) (Ba (As Bk (pv 1) A9)) (Ba (As Bk (As Bk (pv 1) A9) (pv 3)))) A3)))
   (A2 (AH (Bd (Bv (AN (YL rfl) (by rfl) T.all boot_all (A0 (Gn (own:=[("token",5)]) rfl DW.nd (VC (pv 4)) (Ca (N:=["numbers","place","most","count","tokens","token"]) (sc:=A7 Ek) (by decide+kernel)) (fun _ _ _ _ _=>(AZ (i:=5) DW.nd rfl (by nofun))) (fun _ _ _ _ _=>Fc) (fun _ _ _ _ _=>(AD Dl (hr.mono (by decide)) (A0 (pv 5) A3)))) A3))))
   (A5 (A6 At))
   AB)
   (A5 (A6 (pv 4)))))))),?_⟩
  unfold iN at*
  trivial
  refine ⟨_,.inl hS,?_⟩
  simp only[List.length_map]
  split
  next c=>
   refine k1 H (A1.refl H) ?_
   rw[List.drop_eq_nil_of_le (by omega)]
   rfl
  next c=>
   have hp:p<ns.length:=by omega
   obtain ⟨z,hz⟩:∃z,ns[p]?=some z:=⟨ns[p],by simp[hp]⟩
   have ed:ns.drop p=z::ns.drop (p+1):=by
    rw[List.drop_eq_getElem_cons hp]
    rw[List.getElem?_eq_getElem hp]at hz
    rw[Option.some.inj hz]
   rw[ed,Ps.Kr]at k1 k2
   refine ⟨_,hS,.int z,CA (by simp[hz]),z,rfl,?_⟩
   split
   next c1=>
    refine ⟨z,rfl,?_⟩
    split
    next c2=>exact k1 H (A1.refl H) (by simp only;rw[if_neg (by omega)])
    next c2=>
     refine ⟨z,rfl,_,.inl hS,?_⟩
     simp only[List.length_map]
     split
     next c3=>exact k1 H (A1.refl H) (by simp only;rw[if_pos ⟨c1,by omega⟩,if_neg];intro q;have:=q.1;simp at this;omega)
     next c3=>
      refine ⟨z,rfl,?_⟩
      refine ⟨_,hS,fun p1 n1=>⟨_,.inl ⟨SqL.of A4,fun l nl=>?_⟩⟩⟩
      have ec:BG (ns.map V.int) (some ((p:Int)+1)) (some ((p:Int)+1+z))=((ns.drop (p+1)).take z.toNat).map V.int:=by
       rw[TW (a:=p+1) (b:=p+1+z.toNat) (by omega) (by omega) (by simp;omega) (by simp;omega),<-List.map_drop,<-List.map_take]
       simp
      rw[ec]
      rw[ec]at nl
      have e1:A1 H (upd H p1 (.lst (((ns.drop (p+1)).take z.toNat).map V.int))):=A1.new n1
      have e2:A1 H (upd (upd H p1 (.lst (((ns.drop (p+1)).take z.toNat).map V.int))) l (.tup (((ns.drop (p+1)).take z.toNat).map V.int))):=e1.trans (A1.new nl)
      refine ⟨⟨_,SqT.of A4⟩,lcG K (R:=fun _ x y=>∀z,x=V.int z->y=.bl (Ps.EQ z)) (keep:=fun _=>true) (QA (SqT.of A4)) ?_ (fun _ _ _ _ _ h=>h) ?_ ?_⟩
      ·rw[List.length_map]
       exact szl (by rw[List.length_take,List.length_drop];omega)
      ·intro x hx H' e' Qe Qn q1 _
       obtain ⟨y,hy,rfl⟩:=List.mem_map.1 hx
       refine ⟨by simp[BQ],?_⟩
       refine ⟨_,rfl,y,rfl,?_⟩
       exact q1 rfl _ _ (A1.refl _) (fun z hz=>by cases hz;rfl)
      ·intro D H' ys e' hD hp
       rw[DN]at hp
       have ey:=Hs (f:=V.int) (g:=fun z=>.bl (Ps.EQ z)) (fun x y h=>h x rfl) hp
       have ey2:ys=(((ns.drop (p+1)).take z.toNat).map Ps.EQ).map V.bl:=by rw[ey,List.map_map];rfl
       refine ⟨D,rfl,_,SqL.of (by rw[hD,ey2]),?_⟩
       rw[List.all_map]
       split
       next c4=>exact k1 H' (e2.trans e') (by
        simp only
        rw[if_pos ⟨c1,by omega⟩,if_neg]
        rintro ⟨_,q⟩
        have:((ns.drop (p+1)).take z.toNat).all (id∘Ps.EQ)=true:=q
        rw[c4]at this
        cases this)
       next c4=>
        refine k2 H' _ _ _ (e2.trans e') (by
         simp only
         rw[if_pos ⟨c1,by omega⟩,if_pos]
         refine ⟨by rw[List.length_drop];omega,?_⟩
         cases hc:((ns.drop (p+1)).take z.toNat).all Ps.EQ with
         |true=>rfl
         |false=>exact absurd hc c4) ⟨l,rfl,?_⟩
        have h9:(((ns.drop (p+1)).take z.toNat).map Int.toNat).map iN=((ns.drop (p+1)).take z.toNat).map V.int:=by
         rw[List.map_map]
         apply List.map_congr_left
         intro x hx
         have:((ns.drop (p+1)).take z.toNat).all Ps.EQ=true:=by
          cases hc:((ns.drop (p+1)).take z.toNat).all Ps.EQ with
          |true=>rfl
          |false=>exact absurd hc c4
         have:=List.all_eq_true.1 this x hx
         simp[Ps.EQ]at this
         simp[iN,Int.toNat_of_nonneg this.1]
        rw[h9]
        exact A1.tup e' (SqT.of A4)
   next c1=>exact k1 H (A1.refl H) (by simp only;rw[if_neg (fun q=>c1 q.1)])
end
end
section
def Ap:VapatBase.Step->Int
 |.hunk _ _ _ _=>0
 |.swap _ _ _=>1
 |.add _=>2
 |.remove _=>3
 |.move _ _=>4
def BD:VapatBase.Step->Nat
 |.hunk f _ _ _=>f
 |.swap f _ _=>f
 |.add f=>f
 |.remove f=>f
 |.move f _=>f
theorem An.seq {K:PySem.W.Frag} {H:Hp} {v:V} {p:VapatBase.Step} (h:An K H v p):∃a xs,v=.ref a/\SqT K H a (.int (Ap p)::iN (BD p)::xs):=by
 cases p with
 |hunk f a o n=>
  obtain ⟨p,vo,vn,rfl,h,-⟩:=h
  exact ⟨p,_,rfl,h⟩
 |swap f x y=>
  obtain ⟨p,rfl,h⟩:=h
  exact ⟨p,_,rfl,h⟩
 |add f=>
  obtain ⟨p,rfl,h⟩:=h
  exact ⟨p,_,rfl,h⟩
 |remove f=>
  obtain ⟨p,rfl,h⟩:=h
  exact ⟨p,_,rfl,h⟩
 |move f g=>
  obtain ⟨p,rfl,h⟩:=h
  exact ⟨p,_,rfl,h⟩
theorem PP {x y:V} {xs:List V}:BG (x::y::xs) (some 2) none=xs:=by
 unfold BG
 have:HT.sIx (x::y::xs).length 0 (some 2)=2:=by
  have:=HT.sIx_nat (x::y::xs).length 0 2
  rw[show (some (2:Int))=some ((2:Nat):Int) from rfl,this]
  simp
 rw[this,HT.sIx_none]
 simp
theorem at0 {x:V} {xs:List V}:atI (x::xs) 0=some x:=CA (j:=0) rfl
theorem at1 {x y:V} {xs:List V}:atI (x::y::xs) 1=some y:=CA (j:=1) rfl
section
variable {P:Program} {w:World} {K:PySem.W.Frag} {mg:Str->Option Value} {base:Heap}
abbrev Fg:Stmt:=top 6
theorem NY:AC ["tokens"] ["tokens"] (A7 Fg):=⟨rfl,rfl,rfl,by decide+kernel,rfl,by decide+kernel,by decide+kernel⟩
def Fh (K:PySem.W.Frag):Sp:=fun vs H Q _=>∃(v:V) (l:List Nat),vs=[v]/\E2 K H v l/\l.length<=1000/\∀H' a,A1 H H'->H' a=some (.lst ((VapatBase.listed l).map V.int))->Q (.ref a) H'
theorem NZ (T:Txt K mg) (D:AA K mg "write_tokens" Fg ["tokens"]):OkF P w K mg base 1 "write_tokens" ["tokens"] (Fh K):=by
 refine D.ok NY (fun vs H Q E h=>?_) (fun f cdv A outer s H vs Q E hr h=>?_)
 ·obtain ⟨v,l,rfl,_⟩:=h
  rfl
 ·obtain ⟨v,l,rfl,⟨a,rfl,hS⟩,hl,k⟩:=h
  refine ⟨_,(A5 (A6 (As FA (Af (A0 (AN AJ (by rfl) T.len PySem.boot_len (A0 (pv 0) A3)) A3)) (Cg G4 (by rfl) T.list PyProof.Rows.boot_list (A0 (pv 0) A3))))),?_⟩
  trivial
  refine ⟨_,.inr hS,AX (by omega),fun p hp=>⟨_,.inr (A1.tup (A1.new hp) hS),fun q hq=>?_⟩⟩
  have hpq:p≠q:=AV (H:=upd H p _) A4 hq
  refine ⟨_,by rw[A8 hpq,A4],_,A4,AX (by simp;omega),fun r hr=>?_⟩
  refine k _ r (((A1.new hp).trans (A1.new hq)).trans (A1.new hr)) ?_
  rw[A4]
  simp[VapatBase.listed,VapatBase.ints,VapatBase.int,iN,Function.comp_def]
abbrev Hy:Stmt:=top 22
theorem R5:AC ["step"] ["step"] (A7 Hy):=⟨rfl,rfl,rfl,by decide+kernel,rfl,by decide+kernel,by decide+kernel⟩
def L6 (K:PySem.W.Frag):Sp:=fun vs H Q _=>∃(v:V) (p:VapatBase.Step),vs=[v]/\An K H v p/\Q (.bl (VapatBase.isInside p)) H
theorem R6 (T:Txt K mg) (D:AA K mg "is_inside" Hy ["step"]):OkF P w K mg base 1 "is_inside" ["step"] (L6 K):=by
 refine D.ok R5 (fun vs H Q E h=>?_) (fun f cdv A outer s H vs Q E hr h=>?_)
 ·obtain ⟨v,p,rfl,_⟩:=h
  rfl
 ·obtain ⟨v,p,rfl,hv,k⟩:=h
  obtain ⟨a,xs,rfl,hS⟩:=hv.seq
  refine ⟨_,(A5 (A6 (YW (Jz (Ab (AF (r:=AU K) AL (pv 0) A9 (fun _ _=>rfl)) (AI T.HUNK))) (Vo (Jz (Ab (AF (r:=AU K) AL (pv 0) A9 (fun _ _=>rfl)) (AI T.SWAP))))))),?_⟩
  trivial
  refine ⟨_,hS,_,at0,_,rfl,?_⟩
  split
  next c=>cases p<;>first|exact k|cases c
  next c=>
   refine ⟨_,hS,_,at0,_,rfl,?_⟩
   cases p<;>first|exact k|exact absurd rfl c
abbrev L7:Stmt:=top 30
theorem Ux:AC ["hunk"] ["hunk"] (A7 L7):=⟨rfl,rfl,rfl,by decide+kernel,rfl,by decide+kernel,by decide+kernel⟩
def Pc (K:PySem.W.Frag):Sp:=fun vs H Q _=>∃(v:V) (f a:Nat) (o n:List Nat),vs=[v]/\An K H v (.hunk f a o n)/\Q (.int ((n.length:Int) - (o.length:Int))) H
theorem Uy (T:Txt K mg) (D:AA K mg "growth" L7 ["hunk"]):OkF P w K mg base 1 "growth" ["hunk"] (Pc K):=by
 refine D.ok Ux (fun vs H Q E h=>?_) (fun f cdv A outer s H vs Q E hr h=>?_)
 ·obtain ⟨v,f,a,o,n,rfl,_⟩:=h
  rfl
 ·obtain ⟨v,f,a,o,n,rfl,⟨p,vo,vn,rfl,hS,⟨po,rfl,ho⟩,⟨pn,rfl,hn⟩⟩,k⟩:=h
  refine ⟨_,(A5 (A6 (As Ia (AN AJ (by rfl) T.len PySem.boot_len (A0 (AF (r:=AU K) AL (pv 0) A9 (fun _ _=>rfl)) A3)) (AN AJ (by rfl) T.len PySem.boot_len (A0 (AF (r:=AU K) AL (pv 0) A9 (fun _ _=>rfl)) A3))))),?_⟩
  trivial
  refine ⟨_,hS,_,rfl,_,rfl,_,.inr hn,_,hS,_,rfl,_,rfl,_,.inr ho,?_⟩
  simp only[List.length_map]
  exact k
abbrev Fi:Stmt:=top 27
theorem Na:AC ["hunk","by"] ["hunk","by"] (A7 Fi):=⟨rfl,rfl,rfl,by decide+kernel,rfl,by decide+kernel,by decide+kernel⟩
def Iv (K:PySem.W.Frag):Sp:=fun vs H Q _=>∃(v:V) (f a b:Nat) (d:Int) (o n:List Nat),vs=[v,.int d]/\An K H v (.hunk f a o n)/\(a:Int)+d=(b:Int)/\∀H' u,A1 H H'->An K H' u (.hunk f b o n)->Q u H'
theorem Nb (T:Txt K mg) (D:AA K mg "hunk_shifted" Fi ["hunk","by"]):OkF P w K mg base 1 "hunk_shifted" ["hunk","by"] (Iv K):=by
 refine D.ok Na (fun vs H Q E h=>?_) (fun f cdv A outer s H vs Q E hr h=>?_)
 ·obtain ⟨v,f,a,b,d,o,n,rfl,_⟩:=h
  rfl
 ·obtain ⟨v,f,a,b,d,o,n,rfl,⟨p,vo,vn,rfl,hS,ho,hn⟩,hd,k⟩:=h
  refine ⟨_,(A5 (A6 (BL (A0 (AI T.HUNK) (A0 (AF (r:=AU K) AL (pv 0) A9 (fun _ _=>rfl)) (A0 (As Bk (AF (r:=AU K) AL (pv 0) A9 (fun _ _=>rfl)) (pv 1)) (A0 (AF (r:=AU K) AL (pv 0) A9 (fun _ _=>rfl)) (A0 (AF (r:=AU K) AL (pv 0) A9 (fun _ _=>rfl)) A3)))))))),?_⟩
  trivial
  refine ⟨_,hS,_,rfl,_,hS,_,rfl,_,rfl,_,hS,_,rfl,_,hS,_,rfl,AX (by omega),fun q hq=>?_⟩
  refine k _ _ (A1.new hq) ⟨q,vo,vn,rfl,SqT.of ?_,ho.same (A1.new hq),hn.same (A1.new hq)⟩
  rw[A4]
  show some (HO.tup [V.int 0,iN f,V.int ((a:Int)+d),vo,vn])=_
  rw[hd]
  rfl
abbrev HH:Stmt:=top 29
theorem QD:AC ["step","name"] ["step","name"] (A7 HH):=⟨rfl,rfl,rfl,by decide+kernel,rfl,by decide+kernel,by decide+kernel⟩
def Kg (K:PySem.W.Frag):Sp:=fun vs H Q _=>∃(v:V) (p:VapatBase.Step) (g:Nat),vs=[v,iN g]/\An K H v p/\VapatBase.isInside p=true/\∀H' u,A1 H H'->An K H' u (VapatBase.inFile g p)->Q u H'
theorem QE (T:Txt K mg) (D:AA K mg "put_inside" HH ["step","name"]):OkF P w K mg base 1 "put_inside" ["step","name"] (Kg K):=by
 refine D.ok QD (fun vs H Q E h=>?_) (fun f cdv A outer s H vs Q E hr h=>?_)
 ·obtain ⟨v,p,g,rfl,_⟩:=h
  rfl
 ·obtain ⟨v,p,g,rfl,hv,hi,k⟩:=h
  refine ⟨_,(A5 (A6 (As (r:=KR K) PQ (BL (A0 (AF (r:=AU K) AL (pv 0) A9 (fun _ _=>rfl)) (A0 (pv 1) A3))) (Bh (r:=Ig K) Gi (pv 0) (Ba A9) D9)))),?_⟩
  cases p with
  |hunk fl pl o n=>
   obtain ⟨a,vo,vn,rfl,hS,ho,hn⟩:=hv
   trivial
   refine ⟨_,hS,_,rfl,AX (by omega),fun p hp=>⟨_,A1.tup (A1.new hp) hS,fun p1 H1 e1 h1=>⟨_,A1.tup e1 (SqT.of A4),_,h1,AX (by rw[PP];simp),fun p2 H2 e2 h2=>?_⟩⟩⟩
   have e3:=((A1.new hp).trans e1).trans e2
   exact k _ _ e3 ⟨p2,vo,vn,rfl,h2,ho.same e3,hn.same e3⟩
  |swap fl x y=>
   obtain ⟨a,rfl,hS⟩:=hv
   trivial
   refine ⟨_,hS,_,rfl,AX (by omega),fun p hp=>⟨_,A1.tup (A1.new hp) hS,fun p1 H1 e1 h1=>⟨_,A1.tup e1 (SqT.of A4),_,h1,AX (by rw[PP];simp),fun p2 H2 e2 h2=>?_⟩⟩⟩
   have e3:=((A1.new hp).trans e1).trans e2
   exact k _ _ e3 ⟨p2,rfl,h2⟩
  |add _=>cases hi
  |remove _=>cases hi
  |move _ _=>cases hi
abbrev FJ:Stmt:=top 23
theorem Mr:AC ["step"] ["step"] (A7 FJ):=⟨rfl,rfl,rfl,by decide+kernel,rfl,by decide+kernel,by decide+kernel⟩
def Hz (K:PySem.W.Frag):Sp:=fun vs H Q _=>∃(v:V) (p:VapatBase.Step),vs=[v]/\An K H v p/\∀H' a,A1 H H'->H' a=some (.lst ((VapatBase.namesOf p).map iN))->Q (.ref a) H'
theorem Ms (T:Txt K mg) (D:AA K mg "names_of_step" FJ ["step"]):OkF P w K mg base 1 "names_of_step" ["step"] (Hz K):=by
 refine D.ok Mr (fun vs H Q E h=>?_) (fun f cdv A outer s H vs Q E hr h=>?_)
 ·obtain ⟨v,p,rfl,_⟩:=h
  rfl
 ·obtain ⟨v,p,rfl,hv,k⟩:=h
  refine ⟨_,(A2 (AH (AG (Ab (AF (r:=AU K) AL (pv 0) A9 (fun _ _=>rfl)) (AI T.MOVED)))
   (A5 (A6 (Af (A0 (AF (r:=AU K) AL (pv 0) A9 (fun _ _=>rfl)) (A0 (AF (r:=AU K) AL (pv 0) A9 (fun _ _=>rfl)) A3)))))
   AB)
   (A5 (A6 (Af (A0 (AF (r:=AU K) AL (pv 0) A9 (fun _ _=>rfl)) A3))))),?_⟩
  have fin:∀xs:List Nat,VapatBase.namesOf p=xs->∀q,H q=none->Q (.ref q) (upd H q (.lst (xs.map iN))):=fun xs e q hq=>by
   subst e
   exact k _ q (A1.new hq) A4
  cases p with
  |hunk fl pl o n=>
   obtain ⟨a,vo,vn,rfl,hS,-⟩:=hv
   trivial
   refine ⟨_,hS,_,rfl,_,rfl,?_⟩
   rw[if_neg (by decide)]
   exact ⟨_,hS,_,rfl,AX (by omega),fin [fl] rfl⟩
  |swap fl x y=>
   obtain ⟨a,rfl,hS⟩:=hv
   trivial
   refine ⟨_,hS,_,rfl,_,rfl,?_⟩
   rw[if_neg (by decide)]
   exact ⟨_,hS,_,rfl,AX (by omega),fin [fl] rfl⟩
  |add fl=>
   obtain ⟨a,rfl,hS⟩:=hv
   trivial
   refine ⟨_,hS,_,rfl,_,rfl,?_⟩
   rw[if_neg (by decide)]
   exact ⟨_,hS,_,rfl,AX (by omega),fin [fl] rfl⟩
  |remove fl=>
   obtain ⟨a,rfl,hS⟩:=hv
   trivial
   refine ⟨_,hS,_,rfl,_,rfl,?_⟩
   rw[if_neg (by decide)]
   exact ⟨_,hS,_,rfl,AX (by omega),fin [fl] rfl⟩
  |move fl gl=>
   obtain ⟨a,rfl,hS⟩:=hv
   trivial
   refine ⟨_,hS,_,rfl,_,rfl,?_⟩
   rw[if_pos (by decide)]
   exact ⟨_,hS,_,rfl,_,hS,_,rfl,AX (by omega),fin [fl,gl] rfl⟩
abbrev Fj:Stmt:=top 21
theorem Iw:AC ["step","kind"] ["step"] (A7 Fj):=⟨rfl,rfl,rfl,by decide+kernel,rfl,by decide+kernel,by decide+kernel⟩
def Ix (K:PySem.W.Frag):Sp:=fun vs H Q _=>∃(v:V) (p:VapatBase.Step),vs=[v]/\An K H v p/\∀H' u,A1 H H'->An K H' u (VapatBase.turned p)->Q u H'
theorem Nc (T:Txt K mg) (D:AA K mg "turned_round" Fj ["step"]):OkF P w K mg base 1 "turned_round" ["step"] (Ix K):=by
 refine D.ok Iw (fun vs H Q E h=>?_) (fun f cdv A outer s H vs Q E hr h=>?_)
 ·obtain ⟨v,p,rfl,_⟩:=h
  rfl
 ·obtain ⟨v,p,rfl,hv,k⟩:=h
  refine ⟨_,(A2 (AE (i:=1) Iw.nd rfl (by nofun) (AF (r:=AU K) AL (pv 0) A9 (fun _ _=>rfl)))
   (A2 (AH (AG (Ab (pv 1) (AI T.HUNK)))
   (A5 (A6 (BL (A0 (AI T.HUNK) (A0 (AF (r:=AU K) AL (pv 0) A9 (fun _ _=>rfl)) (A0 (AF (r:=AU K) AL (pv 0) A9 (fun _ _=>rfl)) (A0 (AF (r:=AU K) AL (pv 0) A9 (fun _ _=>rfl)) (A0 (AF (r:=AU K) AL (pv 0) A9 (fun _ _=>rfl)) A3))))))))
   AB)
   (A2 (AH (AG (Ab (pv 1) (AI T.ADDED)))
   (A5 (A6 (BL (A0 (AI T.REMOVED) (A0 (AF (r:=AU K) AL (pv 0) A9 (fun _ _=>rfl)) A3)))))
   AB)
   (A2 (AH (AG (Ab (pv 1) (AI T.REMOVED)))
   (A5 (A6 (BL (A0 (AI T.ADDED) (A0 (AF (r:=AU K) AL (pv 0) A9 (fun _ _=>rfl)) A3)))))
   AB)
   (A2 (AH (AG (Ab (pv 1) (AI T.MOVED)))
   (A5 (A6 (BL (A0 (AI T.MOVED) (A0 (AF (r:=AU K) AL (pv 0) A9 (fun _ _=>rfl)) (A0 (AF (r:=AU K) AL (pv 0) A9 (fun _ _=>rfl)) A3))))))
   AB)
   (A5 (A6 (pv 0)))))))),?_⟩
  cases p with
  |hunk fl pl o n=>
   obtain ⟨a,vo,vn,rfl,hS,ho,hn⟩:=hv
   trivial
   refine ⟨_,hS,_,rfl,_,rfl,?_⟩
   rw[if_pos (by decide)]
   exact ⟨_,hS,_,rfl,_,hS,_,rfl,_,hS,_,rfl,_,hS,_,rfl,AX (by omega),fun q hq=>k _ _ (A1.new hq) ⟨q,vn,vo,rfl,SqT.of A4,hn.same (A1.new hq),ho.same (A1.new hq)⟩⟩
  |swap fl x y=>
   have hv0:=hv
   obtain ⟨a,rfl,hS⟩:=hv
   trivial
   refine ⟨_,hS,_,rfl,_,rfl,?_⟩
   rw[if_neg (by decide)]
   refine ⟨_,rfl,?_⟩
   rw[if_neg (by decide)]
   refine ⟨_,rfl,?_⟩
   rw[if_neg (by decide)]
   refine ⟨_,rfl,?_⟩
   rw[if_neg (by decide)]
   exact k _ _ (A1.refl H) hv0
  |add fl=>
   obtain ⟨a,rfl,hS⟩:=hv
   trivial
   refine ⟨_,hS,_,rfl,_,rfl,?_⟩
   rw[if_neg (by decide)]
   refine ⟨_,rfl,?_⟩
   rw[if_pos (by decide)]
   exact ⟨_,hS,_,rfl,AX (by omega),fun q hq=>k _ _ (A1.new hq) ⟨q,rfl,SqT.of A4⟩⟩
  |remove fl=>
   obtain ⟨a,rfl,hS⟩:=hv
   trivial
   refine ⟨_,hS,_,rfl,_,rfl,?_⟩
   rw[if_neg (by decide)]
   refine ⟨_,rfl,?_⟩
   rw[if_neg (by decide)]
   refine ⟨_,rfl,?_⟩
   rw[if_pos (by decide)]
   exact ⟨_,hS,_,rfl,AX (by omega),fun q hq=>k _ _ (A1.new hq) ⟨q,rfl,SqT.of A4⟩⟩
  |move fl gl=>
   obtain ⟨a,rfl,hS⟩:=hv
   trivial
   refine ⟨_,hS,_,rfl,_,rfl,?_⟩
   rw[if_neg (by decide)]
   refine ⟨_,rfl,?_⟩
   rw[if_neg (by decide)]
   refine ⟨_,rfl,?_⟩
   rw[if_neg (by decide)]
   refine ⟨_,rfl,?_⟩
   rw[if_pos (by decide)]
   exact ⟨_,hS,_,rfl,_,hS,_,rfl,AX (by omega),fun q hq=>k _ _ (A1.new hq) ⟨q,rfl,SqT.of A4⟩⟩
end
end
section
theorem Sn {p:VapatBase.Step} {g g2:Nat} (hp:VapatBase.isInside p=true) (hd:VapatBase.disjoint (VapatBase.namesOf p) (VapatBase.namesOf (.move g g2))=false):
  VapatBase.commuted p (.move g g2)=if BD p=g then some (.move g g2,VapatBase.inFile g2 p) else none:=by
 unfold VapatBase.commuted
 rw[if_neg (by simp[hd]),if_neg (by simp[VapatBase.isInside])]
 cases p with
 |hunk f a o n=>by_cases h:f=g<;>simp[BD,VapatBase.isInside,VapatBase.namesOf,h]
 |swap f x y=>by_cases h:f=g<;>simp[BD,VapatBase.isInside,VapatBase.namesOf,h]
 |add _=>cases hp
 |remove _=>cases hp
 |move _ _=>cases hp
theorem Su {q:VapatBase.Step} {g g2:Nat} (hq:VapatBase.isInside q=true) (hd:VapatBase.disjoint (VapatBase.namesOf (.move g g2)) (VapatBase.namesOf q)=false):
  VapatBase.commuted (.move g g2) q=if BD q=g2 then some (VapatBase.inFile g q,.move g g2) else none:=by
 unfold VapatBase.commuted
 rw[if_neg (by simp[hd]),if_neg (by simp[VapatBase.isInside])]
 cases q with
 |hunk f a o n=>by_cases h:f=g2<;>simp[BD,VapatBase.isInside,VapatBase.namesOf,h]
 |swap f x y=>by_cases h:f=g2<;>simp[BD,VapatBase.isInside,VapatBase.namesOf,h]
 |add _=>cases hq
 |remove _=>cases hq
 |move _ _=>cases hq
theorem Dz (l:List Nat):(l.map iN).all DV=true:=by simp[iN,DV]
theorem Fe (t:Nat) (l:List Nat):inV (iN t) (l.map iN)=l.contains t:=by
 unfold inV
 rw[List.any_map,Bool.eq_iff_iff]
 simp only[List.any_eq_true,Function.comp_def,List.contains_iff_mem,iN,eqV,beq_iff_eq]
 constructor
 ·rintro ⟨x,hx,e⟩
  have:x=t:=by omega
  subst this
  exact hx
 ·intro h
  exact ⟨t,h,rfl⟩
section
variable {P:Program} {w:World} {K:PySem.W.Frag} {mg:Str->Option Value} {base:Heap}
abbrev Hk:Stmt:=top 24
theorem Hl:AC ["tokens","swap","turned","token"] ["tokens","swap"] (A7 Hk):=⟨rfl,rfl,rfl,by decide+kernel,rfl,by decide+kernel,by decide+kernel⟩
def K3 (K:PySem.W.Frag):Sp:=fun vs H Q _=>∃(v u:V) (l:List Nat) (f x y:Nat),vs=[v,u]/\E2 K H v l/\l.length<=1000/\An K H u (.swap f x y)/\∀H' r,A1 H H'->E2 K H' r (VapatBase.swapAll x y l)->Q r H'
theorem Th (T:Txt K mg) (D:AA K mg "swapped" Hk ["tokens","swap"]):OkF P w K mg base 1 "swapped" ["tokens","swap"] (K3 K):=by
 refine D.ok Hl (fun vs H Q E h=>?_) (fun f cdv A outer s H vs Q E hr h=>?_)
 ·obtain ⟨v,u,l,f,x,y,rfl,_⟩:=h
  rfl
 ·obtain ⟨v,u,l,fl,x,y,rfl,⟨a,rfl,hl⟩,hlen,⟨b,rfl,hS⟩,k⟩:=h
  have hu:=Ao hr
  refine ⟨_,(A2 (AE (i:=2) Hl.nd rfl (by nofun) (XH (Rb (AF (r:=AU K) AL (pv 1) A9 (fun _ _=>rfl)) (AF (r:=AU K) AL (pv 1) A9 (fun _ _=>rfl)) (Rb (AF (r:=AU K) AL (pv 1) A9 (fun _ _=>rfl)) (AF (r:=AU K) AL (pv 1) A9 (fun _ _=>rfl)) XV)) rfl rfl (by simp) (by decide)))
   (A5 (A6 (Cg E4 (by rfl) T.tuple PyProof.Rows.boot_tuple (A0 (Gn (own:=[("token",3)]) rfl Hl.nd (VC (pv 0)) (Ca (N:=["tokens","swap","turned","token"]) (sc:=A7 Hk) (by decide+kernel)) (fun _ _ _ _ _=>(AZ (i:=3) Hl.nd rfl (by nofun))) (fun _ _ _ _ _=>Fc) (fun _ _ _ _ _=>(Wc hu (pv 2) (pv 3) (pv 3) ⟨rfl,rfl,rfl,rfl⟩))) A3))))),?_⟩
  trivial
  intro p hp
  have hS':=A1.tup (K:=K) (A1.new (o:=.dK []) hp) hS
  refine ⟨_,hS',_,rfl,_,hS',_,rfl,_,hS',_,rfl,_,hS',_,rfl,A4,[(.inl (x:Int),iN y),(.inl (y:Int),iN x)],rfl,by simp,?_⟩
  rw[C7]
  have e2:A1 H (upd H p (.dK (Il [] [(.inl (x:Int),iN y),(.inl (y:Int),iN x)]))):=A1.new hp
  refine ⟨⟨_,A1.tup e2 hl⟩,lcG K (R:=fun _ a b=>∀t:Nat,a=iN t->b=iN (VapatBase.swapToken x y t)) (keep:=fun _=>true) (QA (A1.tup e2 hl)) (szl (by rw[List.length_map];omega)) (fun _ _ _ _ _ h=>h) ?_ ?_⟩
  ·intro z hz H' e' Qe Qn q1 _
   obtain ⟨t,ht,rfl⟩:=List.mem_map.1 hz
   have hd:=e' _ _ (A4 (H:=H) (a:=p) (o:=.dK (Il [] [(.inl (x:Int),iN y),(.inl (y:Int),iN x)])))
   refine ⟨by simp[BQ],?_⟩
   refine ⟨_,rfl,p,rfl,.inl ⟨_,.inl hd⟩,_,rfl,_,rfl,_,B0.k (k:=.inl (t:Int)) hd,?_⟩
   refine q1 rfl _ _ (A1.refl _) (fun t' ht'=>?_)
   have:t'=t:=by
    simp only[iN,V.int.injEq]at ht'
    omega
   subst this
   show (Ae (BB (BB ([]:List (Key×V)) (Sum.inl (x:Int)) (iN y)) (Sum.inl (y:Int)) (iN x)) (Sum.inl (t':Int))).getD (iN t')=_
   rw[FZ,FZ]
   unfold VapatBase.swapToken
   by_cases h1:t'=y
   ·subst h1
    by_cases h2:t'=x
    ·subst h2;simp
    ·simp[h2]
   ·have h1':¬(Sum.inl (t':Int):Key)=.inl (y:Int):=fun q=>h1 (by have:=Sum.inl.inj q;omega)
    rw[if_neg h1']
    by_cases h2:t'=x
    ·subst h2;simp
    ·have h2':¬(Sum.inl (t':Int):Key)=.inl (x:Int):=fun q=>h2 (by have:=Sum.inl.inj q;omega)
     rw[if_neg h2']
     simp[Ae,h1,h2]
  ·intro D H' ys e' hD hp'
   rw[DN]at hp'
   have ey:=Hs (f:=iN) (g:=fun t=>iN (VapatBase.swapToken x y t)) (fun a b h=>h a rfl) hp'
   refine ⟨D,rfl,_,.inl ⟨SqL.of hD,fun q hq=>?_⟩⟩
   refine k _ _ ((e2.trans e').trans (A1.new hq)) ⟨q,rfl,SqT.of ?_⟩
   rw[A4,ey]
   simp[VapatBase.swapAll,Function.comp_def]
abbrev Fk:Stmt:=top 28
theorem Nd:AC ["hunk","swap"] ["hunk","swap"] (A7 Fk):=⟨rfl,rfl,rfl,by decide+kernel,rfl,by decide+kernel,by decide+kernel⟩
def Iy (K:PySem.W.Frag):Sp:=fun vs H Q _=>∃(v u:V) (f a:Nat) (o n:List Nat) (g x y:Nat),vs=[v,u]/\An K H v (.hunk f a o n)/\o.length<=1000/\n.length<=1000/\An K H u (.swap g x y)/\
 ∀H' r,A1 H H'->An K H' r (.hunk f a (VapatBase.swapAll x y o) (VapatBase.swapAll x y n))->Q r H'
theorem Nf (T:Txt K mg) (D:AA K mg "hunk_swapped" Fk ["hunk","swap"]) (ER:OkF P w K mg base 1 "swapped" ["tokens","swap"] (K3 K)):OkF P w K mg base 2 "hunk_swapped" ["hunk","swap"] (Iy K):=by
 refine D.ok Nd (fun vs H Q E h=>?_) (fun f cdv A outer s H vs Q E hr h=>?_)
 ·obtain ⟨v,u,f,a,o,n,g,x,y,rfl,_⟩:=h
  rfl
 ·obtain ⟨v,u,fl,a,o,n,g,x,y,rfl,⟨p,vo,vn,rfl,hS,ho,hn⟩,lo,ln,hu,k⟩:=h
  refine ⟨_,(A5 (A6 (BL (A0 (AI T.HUNK) (A0 (AF (r:=AU K) AL (pv 0) A9 (fun _ _=>rfl)) (A0 (AF (r:=AU K) AL (pv 0) A9 (fun _ _=>rfl)) (A0 (AD ER (hr.mono (by decide)) (A0 (AF (r:=AU K) AL (pv 0) A9 (fun _ _=>rfl)) (A0 (pv 1) A3))) (A0 (AD ER (hr.mono (by decide)) (A0 (AF (r:=AU K) AL (pv 0) A9 (fun _ _=>rfl)) (A0 (pv 1) A3))) A3)))))))),?_⟩
  trivial
  refine ⟨_,hS,_,rfl,_,hS,_,rfl,_,hS,_,rfl,vo,u,o,g,x,y,rfl,ho,lo,hu,fun H1 r1 e1 h1=>?_⟩
  refine ⟨_,A1.tup e1 hS,_,rfl,vn,u,n,g,x,y,rfl,hn.same e1,ln,hu.same e1,fun H2 r2 e2 h2=>?_⟩
  refine ⟨AX (by simp),fun q hq=>?_⟩
  exact k _ _ ((e1.trans e2).trans (A1.new hq)) ⟨q,r1,r2,rfl,SqT.of A4,(h1.same e2).same (A1.new hq),h2.same (A1.new hq)⟩
abbrev Cw:Stmt:=top 26
theorem Cy:AC ["first","second","names","name"] ["first","second"] (A7 Cw):=⟨rfl,rfl,rfl,by decide+kernel,rfl,by decide+kernel,by decide+kernel⟩
def GD (K:PySem.W.Frag):Sp:=fun vs H Q _=>∃(v u:V) (p q:VapatBase.Step),vs=[v,u]/\An K H v p/\An K H u q/\∀H',A1 H H'->Q (.bl (!VapatBase.disjoint (VapatBase.namesOf p) (VapatBase.namesOf q))) H'
theorem Kv (T:Txt K mg) (D:AA K mg "have_common_name" Cw ["first","second"]) (EI:OkF P w K mg base 1 "names_of_step" ["step"] (Hz K)):OkF P w K mg base 2 "have_common_name" ["first","second"] (GD K):=by
 refine D.ok Cy (fun vs H Q E h=>?_) (fun f cdv A outer s H vs Q E hr h=>?_)
 ·obtain ⟨v,u,p,q,rfl,_⟩:=h
  rfl
 ·obtain ⟨v,u,p,q,rfl,hv,hu,k⟩:=h
  refine ⟨_,(A2 (AE (i:=2) Cy.nd rfl (by nofun) (AD EI (hr.mono (by decide)) (A0 (pv 1) A3)))
   (A5 (A6 (AN (Rk rfl) (by rfl) T.any boot_any (A0 (Gn (own:=[("name",3)]) rfl Cy.nd (B4 (AD EI (hr.mono (by decide)) (A0 (pv 0) A3))) (Ca (N:=["first","second","names","name"]) (sc:=A7 Cw) (by decide+kernel)) (fun _ _ _ _ _=>(AZ (i:=3) Cy.nd rfl (by nofun))) (fun _ _ _ _ _=>Fc) (fun _ _ _ _ _=>(Jy (r:=rIn K false) Dj (pv 3) (pv 2) (by with_unfolding_all rfl)))) A3))))),?_⟩
  trivial
  refine ⟨u,q,rfl,hu,fun H1 a1 e1 h1=>?_⟩
  refine ⟨v,p,rfl,hv.same e1,fun H2 a2 e2 h2=>?_⟩
  refine ⟨a2,rfl,⟨_,SqL.of h2⟩,lcG K (R:=fun _ a b=>∀t:Nat,a=iN t->b=.bl ((VapatBase.namesOf q).contains t)) (keep:=fun _=>true) (Ay (SqL.of h2)) (szl (by rw[List.length_map];cases p<;>simp[VapatBase.namesOf])) (fun _ _ _ _ _ h=>h) ?_ ?_⟩
  ·intro z hz H' e' Qe Qn q1 _
   obtain ⟨t,ht,rfl⟩:=List.mem_map.1 hz
   refine ⟨by simp[BQ],?_⟩
   refine ⟨_,rfl,_,rfl,a1,_,rfl,.inl (SqL.of (e' _ _ (e2 _ _ h1))),rfl,Dz _,?_⟩
   refine q1 rfl _ _ (A1.refl _) (fun t' ht'=>?_)
   have:t'=t:=by
    simp only[iN,V.int.injEq]at ht'
    omega
   subst this
   simp only[Bool.false_eq_true,if_false]
   rw[Fe]
  ·intro D H' ys e' hD hp'
   rw[DN]at hp'
   have ey:=Hs (f:=iN) (g:=fun t=>.bl ((VapatBase.namesOf q).contains t)) (fun a b h=>h a rfl) hp'
   have ey2:ys=((VapatBase.namesOf p).map (fun t=>(VapatBase.namesOf q).contains t)).map V.bl:=by rw[ey,List.map_map];rfl
   refine ⟨D,rfl,_,SqL.of (by rw[hD,ey2]),?_⟩
   have:(!VapatBase.disjoint (VapatBase.namesOf p) (VapatBase.namesOf q))=((VapatBase.namesOf p).map (fun t=>(VapatBase.namesOf q).contains t)).any id:=by
    unfold VapatBase.disjoint
    rw[List.any_map,Bool.eq_iff_iff]
    simp
   rw[<-this]
   exact k _ ((e1.trans e2).trans e')
abbrev Eu:Stmt:=top 31
theorem MO:AC ["first","second"] ["first","second"] (A7 Eu):=⟨rfl,rfl,rfl,by decide+kernel,rfl,by decide+kernel,by decide+kernel⟩
def Qk (K:PySem.W.Frag) (H:Hp) (v:V):Option (VapatBase.Step×VapatBase.Step)->Prop
 |none=>v=.non
 |some r=>∃a x y,v=.ref a/\SqT K H a [x,y]/\An K H x r.1/\An K H y r.2
def He (K:PySem.W.Frag):Sp:=fun vs H Q _=>∃(v u:V) (f a b:Nat) (o n x y:List Nat),vs=[v,u]/\An K H v (.hunk f a o n)/\An K H u (.hunk f b x y)/\
 ∀H' r,A1 H H'->Qk K H' r (VapatBase.commutedInside (.hunk f a o n) (.hunk f b x y))->Q r H'
theorem MP (T:Txt K mg) (D:AA K mg "commuted_hunks" Eu ["first","second"]) (El:OkF P w K mg base 1 "hunk_shifted" ["hunk","by"] (Iv K)) (K4:OkF P w K mg base 1 "growth" ["hunk"] (Pc K)):
  OkF P w K mg base 2 "commuted_hunks" ["first","second"] (He K):=by
 refine D.ok MO (fun vs H Q E h=>?_) (fun f cdv A outer s H vs Q E hr h=>?_)
 ·obtain ⟨v,u,f,a,b,o,n,x,y,rfl,_⟩:=h
  rfl
 ·obtain ⟨v,u,fl,a,b,o,n,x,y,rfl,hv,hu,k⟩:=h
  have hv0:=hv
  have hu0:=hu
  obtain ⟨p1,vo,vn,rfl,hS1,⟨po,rfl,ho⟩,⟨pn,rfl,hn⟩⟩:=hv
  obtain ⟨p2,vx,vy,rfl,hS2,⟨px,rfl,hx⟩,⟨py,rfl,hy⟩⟩:=hu
  refine ⟨_,(A2 (AH (BZ UJ (As Ia (AF (r:=AU K) AL (pv 1) A9 (fun _ _=>rfl)) (AF (r:=AU K) AL (pv 0) A9 (fun _ _=>rfl))) (AN AJ (by rfl) T.len PySem.boot_len (A0 (AF (r:=AU K) AL (pv 0) A9 (fun _ _=>rfl)) A3)) (DI _))
   (A5 (A6 (BL (A0 (AD El (hr.mono (by decide)) (A0 (pv 1) (A0 (OT M0 (AD K4 (hr.mono (by decide)) (A0 (pv 0) A3))) A3))) (A0 (pv 0) A3)))))
   AB)
   (A2 (AH (BZ UJ (As Ia (AF (r:=AU K) AL (pv 0) A9 (fun _ _=>rfl)) (AF (r:=AU K) AL (pv 1) A9 (fun _ _=>rfl))) (AN AJ (by rfl) T.len PySem.boot_len (A0 (AF (r:=AU K) AL (pv 1) A9 (fun _ _=>rfl)) A3)) (DI _))
   (A5 (A6 (BL (A0 (pv 1) (A0 (AD El (hr.mono (by decide)) (A0 (pv 0) (A0 (AD K4 (hr.mono (by decide)) (A0 (pv 1) A3)) A3))) A3)))))
   AB)
   (A5 (A6 At)))),?_⟩
  trivial
  refine ⟨_,hS2,_,rfl,_,hS1,_,rfl,_,rfl,_,rfl,_,hS1,_,rfl,_,rfl,_,.inr hn,?_⟩
  simp only[List.length_map]
  split
  next c=>
   refine ⟨_,fl,a,o,n,rfl,hv0,_,rfl,?_⟩
   refine ⟨_,fl,b,b - n.length+o.length,_,x,y,rfl,hu0,by omega,fun H1 r1 e1 h1=>⟨AX (by simp),fun q hq=>?_⟩⟩
   refine k _ _ (e1.trans (A1.new hq)) ?_
   rw[show VapatBase.commutedInside (.hunk fl a o n) (.hunk fl b x y)=some (.hunk fl (b - n.length+o.length) x y,.hunk fl a o n) by
    simp only[VapatBase.commutedInside];rw[if_pos (by omega)]]
   exact ⟨q,_,_,rfl,SqT.of A4,h1.same (A1.new hq),hv0.same (e1.trans (A1.new hq))⟩
  next c=>
   refine ⟨_,hS1,_,rfl,_,hS2,_,rfl,_,rfl,_,rfl,_,hS2,_,rfl,_,rfl,_,.inr hx,?_⟩
   simp only[List.length_map]
   split
   next c2=>
    refine ⟨_,fl,b,x,y,rfl,hu0,?_⟩
    refine ⟨_,fl,a,a - x.length+y.length,_,o,n,rfl,hv0,by omega,fun H1 r1 e1 h1=>⟨AX (by simp),fun q hq=>?_⟩⟩
    refine k _ _ (e1.trans (A1.new hq)) ?_
    rw[show VapatBase.commutedInside (.hunk fl a o n) (.hunk fl b x y)=some (.hunk fl b x y,.hunk fl (a - x.length+y.length) o n) by
     simp only[VapatBase.commutedInside];rw[if_neg (by omega),if_pos (by omega)]]
    exact ⟨q,_,_,rfl,SqT.of A4,hu0.same (e1.trans (A1.new hq)),h1.same (A1.new hq)⟩
   next c2=>
    refine k _ _ (A1.refl H) ?_
    rw[show VapatBase.commutedInside (.hunk fl a o n) (.hunk fl b x y)=none by
     simp only[VapatBase.commutedInside];rw[if_neg (by omega),if_neg (by omega)]]
    rfl
abbrev Ev:Stmt:=top 32
theorem MQ:AC ["first","second"] ["first","second"] (A7 Ev):=⟨rfl,rfl,rfl,by decide+kernel,rfl,by decide+kernel,by decide+kernel⟩
def Hf (K:PySem.W.Frag):Sp:=fun vs H Q _=>∃(v u:V) (f x y z t:Nat),vs=[v,u]/\An K H v (.swap f x y)/\An K H u (.swap f z t)/\
 ∀H' r,A1 H H'->Qk K H' r (VapatBase.commutedInside (.swap f x y) (.swap f z t))->Q r H'
theorem MR (T:Txt K mg) (D:AA K mg "commuted_swaps" Ev ["first","second"]):OkF P w K mg base 1 "commuted_swaps" ["first","second"] (Hf K):=by
 refine D.ok MQ (fun vs H Q E h=>?_) (fun f cdv A outer s H vs Q E hr h=>?_)
 ·obtain ⟨v,u,f,x,y,z,t,rfl,_⟩:=h
  rfl
 ·obtain ⟨v,u,fl,x,y,z,t,rfl,hv,hu,k⟩:=h
  have hv0:=hv
  have hu0:=hu
  obtain ⟨p1,rfl,hS1⟩:=hv
  obtain ⟨p2,rfl,hS2⟩:=hu
  refine ⟨_,(A2 (AH (PW.pt (Ce (BZ (r:=rIn K false) Dj (AF (r:=AU K) AL (pv 0) A9 (fun _ _=>rfl)) (Bh (r:=Ig K) Gi (pv 1) (Ba A9) D9) (by with_unfolding_all rfl)) (Cs (BZ (r:=rIn K false) Dj (AF (r:=AU K) AL (pv 0) A9 (fun _ _=>rfl)) (Bh (r:=Ig K) Gi (pv 1) (Ba A9) D9) (by with_unfolding_all rfl)))))
   (A5 (A6 At))
   AB)
   (A5 (A6 (BL (A0 (pv 1) (A0 (pv 0) A3)))))),?_⟩
  trivial
  have hc:BG [V.int 1,iN fl,iN z,iN t] (some 2) none=[z,t].map iN:=PP
  refine ⟨_,hS1,_,rfl,_,hS2,fun q1 H1 e1 h1=>?_⟩
  rw[hc]at h1
  refine ⟨_,.inr h1,rfl,Dz _,?_⟩
  rw[Fe]
  have hd:VapatBase.commutedInside (.swap fl x y) (.swap fl z t)=if VapatBase.disjoint [x,y] [z,t] then some (.swap fl z t,.swap fl x y) else none:=rfl
  split
  next c=>
   refine k _ _ e1 ?_
   rw[hd,if_neg (by simp[VapatBase.disjoint]at c ⊢;grind)]
   rfl
  next c=>
   refine ⟨_,A1.tup e1 hS1,_,rfl,_,A1.tup e1 hS2,fun q2 H2 e2 h2=>?_⟩
   rw[hc]at h2
   refine ⟨_,.inr h2,rfl,Dz _,?_⟩
   rw[Fe]
   split
   next c2=>
    refine k _ _ (e1.trans e2) ?_
    rw[hd,if_neg (by simp[VapatBase.disjoint]at c2 ⊢;grind)]
    rfl
   next c2=>
    refine ⟨AX (by simp),fun q hq=>?_⟩
    refine k _ _ ((e1.trans e2).trans (A1.new hq)) ?_
    rw[hd,if_pos (by simp[VapatBase.disjoint]at c c2 ⊢;grind)]
    exact ⟨q,_,_,rfl,SqT.of A4,hu0.same ((e1.trans e2).trans (A1.new hq)),hv0.same ((e1.trans e2).trans (A1.new hq))⟩
abbrev D4:Stmt:=top 33
theorem Iq:AC ["first","second"] ["first","second"] (A7 D4):=⟨rfl,rfl,rfl,by decide+kernel,rfl,by decide+kernel,by decide+kernel⟩
def BX:VapatBase.Step->Prop
 |.hunk _ _ o n=>o.length<=8/\n.length<=8
 |_=>True
def Et (K:PySem.W.Frag):Sp:=fun vs H Q _=>∃(v u:V) (p q:VapatBase.Step),vs=[v,u]/\An K H v p/\An K H u q/\BX p/\BX q/\VapatBase.isInside p=true/\VapatBase.isInside q=true/\BD p=BD q/\
 ∀H' r,A1 H H'->Qk K H' r (VapatBase.commutedInside p q)->Q r H'
theorem Ir (T:Txt K mg) (D:AA K mg "commuted_in_one_file" D4 ["first","second"]) (FK:OkF P w K mg base 2 "commuted_hunks" ["first","second"] (He K)) (FL:OkF P w K mg base 1 "commuted_swaps" ["first","second"] (Hf K))
  (Em:OkF P w K mg base 2 "hunk_swapped" ["hunk","swap"] (Iy K)):OkF P w K mg base 3 "commuted_in_one_file" ["first","second"] (Et K):=by
 refine D.ok Iq (fun vs H Q E h=>?_) (fun f cdv A outer s H vs Q E hr h=>?_)
 ·obtain ⟨v,u,p,q,rfl,_⟩:=h
  rfl
 ·obtain ⟨v,u,p,q,rfl,hv,hu,sp,sq,ip,iq,hf,k⟩:=h
  obtain ⟨a,xs,rfl,hS1⟩:=hv.seq
  obtain ⟨b,ys,rfl,hS2⟩:=hu.seq
  refine ⟨_,(A2 (AH (PW.pt (HG (AG (Ab (AF (r:=AU K) AL (pv 0) A9 (fun _ _=>rfl)) (AI T.HUNK))) (Hw (AG (Ab (AF (r:=AU K) AL (pv 1) A9 (fun _ _=>rfl)) (AI T.HUNK))))))
   (A5 (A6 (AD FK (hr.mono (by decide)) (A0 (pv 0) (A0 (pv 1) A3)))))
   AB)
   (A2 (AH (PW.pt (HG (AG (Ab (AF (r:=AU K) AL (pv 0) A9 (fun _ _=>rfl)) (AI T.SWAP))) (Hw (AG (Ab (AF (r:=AU K) AL (pv 1) A9 (fun _ _=>rfl)) (AI T.SWAP))))))
   (A5 (A6 (AD FL (hr.mono (by decide)) (A0 (pv 0) (A0 (pv 1) A3)))))
   AB)
   (A2 (AH (AG (Ab (AF (r:=AU K) AL (pv 0) A9 (fun _ _=>rfl)) (AI T.HUNK)))
   (A5 (A6 (BL (A0 (pv 1) (A0 (AD Em (hr.mono (by decide)) (A0 (pv 0) (A0 (pv 1) A3))) A3)))))
   AB)
   (A5 (A6 (BL (A0 (AD Em (hr.mono (by decide)) (A0 (pv 1) (A0 (pv 0) A3))) (A0 (pv 0) A3)))))))),?_⟩
  trivial
  cases p with
  |hunk f1 a1 o1 n1=>
   cases q with
   |hunk f2 a2 o2 n2=>
    cases hf
    refine ⟨_,hS1,_,at0,_,rfl,?_⟩
    refine ifT rfl ?_
    refine ⟨_,hS2,_,at0,_,rfl,?_⟩
    refine ifT rfl ?_
    exact ⟨_,_,f1,a1,a2,o1,n1,o2,n2,rfl,hv,hu,k⟩
   |swap f2 x y=>
    cases hf
    refine ⟨_,hS1,_,at0,_,rfl,?_⟩
    refine ifT rfl ?_
    refine ⟨_,hS2,_,at0,_,rfl,?_⟩
    refine ifF (by simp[Ap]) ?_
    refine ⟨_,hS1,_,at0,_,rfl,?_⟩
    refine ifF (by simp[Ap]) ?_
    refine ⟨_,hS1,_,at0,_,rfl,?_⟩
    refine ifT rfl ?_
    refine ⟨_,_,f1,a1,o1,n1,f1,x,y,rfl,hv,(by have:=sp.1;omega),(by have:=sp.2;omega),hu,fun H1 r1 e1 h1=>⟨AX (by simp),fun r hr=>?_⟩⟩
    exact k _ _ (e1.trans (A1.new hr)) ⟨r,_,_,rfl,SqT.of A4,hu.same (e1.trans (A1.new hr)),h1.same (A1.new hr)⟩
   |add _=>cases iq
   |remove _=>cases iq
   |move _ _=>cases iq
  |swap f1 x1 y1=>
   cases q with
   |hunk f2 a2 o2 n2=>
    cases hf
    refine ⟨_,hS1,_,at0,_,rfl,?_⟩
    refine ifF (by simp[Ap]) ?_
    refine ⟨_,hS1,_,at0,_,rfl,?_⟩
    refine ifT rfl ?_
    refine ⟨_,hS2,_,at0,_,rfl,?_⟩
    refine ifF (by simp[Ap]) ?_
    refine ⟨_,hS1,_,at0,_,rfl,?_⟩
    refine ifF (by simp[Ap]) ?_
    refine ⟨_,_,f1,a2,o2,n2,f1,x1,y1,rfl,hu,(by have:=sq.1;omega),(by have:=sq.2;omega),hv,fun H1 r1 e1 h1=>⟨AX (by simp),fun r hr=>?_⟩⟩
    exact k _ _ (e1.trans (A1.new hr)) ⟨r,_,_,rfl,SqT.of A4,h1.same (A1.new hr),hv.same (e1.trans (A1.new hr))⟩
   |swap f2 x2 y2=>
    cases hf
    refine ⟨_,hS1,_,at0,_,rfl,?_⟩
    refine ifF (by simp[Ap]) ?_
    refine ⟨_,hS1,_,at0,_,rfl,?_⟩
    refine ifT rfl ?_
    refine ⟨_,hS2,_,at0,_,rfl,?_⟩
    refine ifT rfl ?_
    exact ⟨_,_,f1,x1,y1,x2,y2,rfl,hv,hu,k⟩
   |add _=>cases iq
   |remove _=>cases iq
   |move _ _=>cases iq
  |add _=>cases ip
  |remove _=>cases ip
  |move _ _=>cases ip
abbrev JH:Stmt:=top 34
theorem SU:AC ["first","second"] ["first","second"] (A7 JH):=⟨rfl,rfl,rfl,by decide+kernel,rfl,by decide+kernel,by decide+kernel⟩
def Mc (K:PySem.W.Frag):Sp:=fun vs H Q _=>∃(v u:V) (p q:VapatBase.Step),vs=[v,u]/\An K H v p/\An K H u q/\BX p/\BX q/\Ps.Ok p/\Ps.Ok q/\
 ∀H' r,A1 H H'->Qk K H' r (VapatBase.commuted p q)->Q r H'
theorem SV (T:Txt K mg) (D:AA K mg "commuted" JH ["first","second"]) (ES:OkF P w K mg base 2 "have_common_name" ["first","second"] (GD K)) (E5:OkF P w K mg base 1 "is_inside" ["step"] (L6 K))
  (DJ:OkF P w K mg base 3 "commuted_in_one_file" ["first","second"] (Et K)) (Fl:OkF P w K mg base 1 "put_inside" ["step","name"] (Kg K)):OkF P w K mg base 4 "commuted" ["first","second"] (Mc K):=by
 refine D.ok SU (fun vs H Q E h=>?_) (fun f cdv A outer s H vs Q E hr h=>?_)
 ·obtain ⟨v,u,p,q,rfl,_⟩:=h
  rfl
 ·obtain ⟨v,u,p,q,rfl,hv,hu,sp,sq,op,oq,k⟩:=h
  obtain ⟨a,xs,rfl,hS1⟩:=hv.seq
  obtain ⟨b,ys,rfl,hS2⟩:=hu.seq
  refine ⟨_,(A2 (AH (Bd (Bv (AD ES (hr.mono (by decide)) (A0 (pv 0) (A0 (pv 1) A3)))))
   (A5 (A6 (BL (A0 (pv 1) (A0 (pv 0) A3)))))
   AB)
   (A2 (AH (PW.pt (HG (Bv (AD E5 (hr.mono (by decide)) (A0 (pv 0) A3))) (Hw (Bv (AD E5 (hr.mono (by decide)) (A0 (pv 1) A3))))))
   (A5 (A6 (AD DJ (hr.mono (by decide)) (A0 (pv 0) (A0 (pv 1) A3)))))
   AB)
   (A2 (AH (PW.pt (HG (AG (Ab (AF (r:=AU K) AL (pv 0) A9 (fun _ _=>rfl)) (AI T.MOVED))) (HG (Bv (AD E5 (hr.mono (by decide)) (A0 (pv 1) A3))) (Hw (AG (Ab (AF (r:=AU K) AL (pv 1) A9 (fun _ _=>rfl)) (AF (r:=AU K) AL (pv 0) A9 (fun _ _=>rfl))))))))
   (A5 (A6 (BL (A0 (AD Fl (hr.mono (by decide)) (A0 (pv 1) (A0 (AF (r:=AU K) AL (pv 0) A9 (fun _ _=>rfl)) A3))) (A0 (pv 0) A3)))))
   AB)
   (A2 (AH (PW.pt (HG (Bv (AD E5 (hr.mono (by decide)) (A0 (pv 0) A3))) (HG (AG (Ab (AF (r:=AU K) AL (pv 1) A9 (fun _ _=>rfl)) (AI T.MOVED))) (Hw (AG (Ab (AF (r:=AU K) AL (pv 0) A9 (fun _ _=>rfl)) (AF (r:=AU K) AL (pv 1) A9 (fun _ _=>rfl))))))))
   (A5 (A6 (BL (A0 (pv 1) (A0 (AD Fl (hr.mono (by decide)) (A0 (pv 0) (A0 (AF (r:=AU K) AL (pv 1) A9 (fun _ _=>rfl)) A3))) A3)))))
   AB)
   (A5 (A6 At)))))),?_⟩
  trivial
  refine ⟨_,_,p,q,rfl,hv,hu,fun H1 e1=>⟨_,rfl,?_⟩⟩
  cases hd:VapatBase.disjoint (VapatBase.namesOf p) (VapatBase.namesOf q) with
  |true=>
   refine ifT rfl ?_
   refine ⟨AX (by simp),fun r hr=>k _ _ (e1.trans (A1.new hr)) ?_⟩
   rw[show VapatBase.commuted p q=some (q,p) by unfold VapatBase.commuted;rw[if_pos hd]]
   exact ⟨r,_,_,rfl,SqT.of A4,hu.same (e1.trans (A1.new hr)),hv.same (e1.trans (A1.new hr))⟩
  |false=>
   refine ifF (by simp) ?_
   have hv1:=hv.same e1
   have hu1:=hu.same e1
   have hS1':=A1.tup e1 hS1
   have hS2':=A1.tup e1 hS2
   have notin:∀H' r,A1 H1 H'->VapatBase.commuted p q=none->r=V.non->Q r H':=fun H' r e' hc hr=>by
    subst hr
    exact k _ _ (e1.trans e') (by rw[hc];rfl)
   cases hp:VapatBase.isInside p with
   |true=>
    refine ⟨_,p,rfl,hv1,_,rfl,?_⟩
    rw[hp]
    refine ifT rfl ?_
    refine ⟨_,q,rfl,hu1,_,rfl,?_⟩
    cases hq:VapatBase.isInside q with
    |true=>
     refine ifT rfl ?_
     refine ⟨_,_,p,q,rfl,hv1,hu1,sp,sq,hp,hq,?_,fun H2 r e2 h2=>k _ _ (e1.trans e2) ?_⟩
     ·cases p<;>cases q<;>simp_all[VapatBase.isInside,VapatBase.disjoint,VapatBase.namesOf,BD]
     ·rw[show VapatBase.commuted p q=VapatBase.commutedInside p q by unfold VapatBase.commuted;rw[if_neg (by simp[hd]),if_pos (by simp[hp,hq])]]
      exact h2
    |false=>
     refine ifF (by simp) ?_
     refine ⟨_,hS1',_,at0,_,rfl,?_⟩
     refine ifF (by cases p<;>simp_all[Ap,VapatBase.isInside]) ?_
     refine ⟨_,p,rfl,hv1,_,rfl,?_⟩
     rw[hp]
     refine ifT rfl ?_
     refine ⟨_,hS2',_,at0,_,rfl,?_⟩
     cases q with
     |hunk _ _ _ _=>cases hq
     |swap _ _ _=>cases hq
     |add g=>
      refine ifF (by simp[Ap]) ?_
      exact notin _ _ (A1.refl _) (by cases p<;>simp_all[VapatBase.commuted,VapatBase.isInside]) rfl
     |remove g=>
      refine ifF (by simp[Ap]) ?_
      exact notin _ _ (A1.refl _) (by cases p<;>simp_all[VapatBase.commuted,VapatBase.isInside]) rfl
     |move g g2=>
      refine ifT rfl ?_
      obtain ⟨b',hb,hS3⟩:=hu1
      cases hb
      refine ⟨_,hS1',_,at1,_,hS3,_,rfl,_,rfl,_,rfl,?_⟩
      have hc:VapatBase.commuted p (.move g g2)=if BD p=g then some (.move g g2,VapatBase.inFile g2 p) else none:=Sn hp hd
      split
      next c=>
       have c':BD p=g:=by omega
       refine ⟨_,hS3,_,rfl,?_⟩
       refine ⟨_,p,g2,rfl,hv1,hp,fun H2 r2 e2 h2=>⟨AX (by simp),fun r hr=>k _ _ ((e1.trans e2).trans (A1.new hr)) ?_⟩⟩
       rw[hc,if_pos c']
       exact ⟨r,_,_,rfl,SqT.of A4,hu.same ((e1.trans e2).trans (A1.new hr)),h2.same (A1.new hr)⟩
      next c=>
       exact notin _ _ (A1.refl _) (by rw[hc,if_neg (by omega)]) rfl
   |false=>
    refine ⟨_,p,rfl,hv1,_,rfl,?_⟩
    rw[hp]
    refine ifF (by simp) ?_
    refine ⟨_,hS1',_,at0,_,rfl,?_⟩
    cases p with
    |hunk _ _ _ _=>cases hp
    |swap _ _ _=>cases hp
    |add g=>
     refine ifF (by simp[Ap]) ?_
     refine ⟨_,_,rfl,hv1,_,rfl,?_⟩
     rw[hp]
     refine ifF (by simp) ?_
     exact notin _ _ (A1.refl _) (by cases q<;>simp_all[VapatBase.commuted,VapatBase.isInside]) rfl
    |remove g=>
     refine ifF (by simp[Ap]) ?_
     refine ⟨_,_,rfl,hv1,_,rfl,?_⟩
     rw[hp]
     refine ifF (by simp) ?_
     exact notin _ _ (A1.refl _) (by cases q<;>simp_all[VapatBase.commuted,VapatBase.isInside]) rfl
    |move g g2=>
     refine ifT rfl ?_
     refine ⟨_,q,rfl,hu1,_,rfl,?_⟩
     have last:∀{B:Prop},VapatBase.commuted (.move g g2) q=none->∃(v:V) (p:VapatBase.Step),[V.ref a]=[v]/\An K H1 v p/\∃c,V.bl (VapatBase.isInside p)=V.bl c/\if c=true then B else Q V.non H1:=fun hn=>
      ⟨_,_,rfl,hv1,_,rfl,ifF (by simp[VapatBase.isInside]) (notin _ _ (A1.refl _) hn rfl)⟩
     cases hq:VapatBase.isInside q with
     |true=>
      refine ifT rfl ?_
      obtain ⟨a',ha,hS3⟩:=id hv1
      cases ha
      refine ⟨_,hS2',_,at1,_,hS3,_,rfl,_,rfl,_,rfl,?_⟩
      have hc:VapatBase.commuted (.move g g2) q=if BD q=g2 then some (VapatBase.inFile g q,.move g g2) else none:=Su hq hd
      split
      next c=>
       have c':BD q=g2:=by omega
       refine ⟨_,hS3,_,rfl,?_⟩
       refine ⟨_,q,g,rfl,hu1,hq,fun H2 r2 e2 h2=>⟨AX (by simp),fun r hr=>k _ _ ((e1.trans e2).trans (A1.new hr)) ?_⟩⟩
       rw[hc,if_pos c']
       exact ⟨r,_,_,rfl,SqT.of A4,h2.same (A1.new hr),hv.same ((e1.trans e2).trans (A1.new hr))⟩
      next c=>
       exact last (by rw[hc,if_neg (by omega)])
     |false=>
      refine ifF (by simp) ?_
      exact last (by cases q<;>simp_all[VapatBase.commuted,VapatBase.isInside])
end
end
section
def CM (p:Vapatc.Patch):Prop:=Ps.Ok p.step/\BX p.step
def Good (r:Vapatc.Row):Prop:=∀p∈r,CM p
theorem XD {p q q' p':VapatBase.Step} (hp:BX p) (hq:BX q) (h:VapatBase.commuted p q=some (q',p')):BX q'/\BX p':=by
 cases p<;>cases q<;>simp[VapatBase.commuted,VapatBase.disjoint,VapatBase.namesOf,VapatBase.isInside,VapatBase.commutedInside,VapatBase.inFile]at h<;>grind [BX,Ps.AR]
theorem VF {p q q' p':Vapatc.Patch} (hp:CM p) (hq:CM q) (h:Ps.cP p q=some (q',p')):CM q'/\CM p':=by
 obtain ⟨a,b,c,-⟩:=Ps.Bw.1 h
 have k1:=Ps.okc a b c
 have k2:=XD hp.2 hq.2 c
 exact ⟨⟨k1.1,k2.1⟩,⟨k1.2,k2.2⟩⟩
theorem Good.cons {p:Vapatc.Patch} {r:Vapatc.Row}:Good (p::r)↔CM p/\Good r:=by simp[Good]
theorem Good.append {a b:Vapatc.Row}:Good (a++b)↔Good a/\Good b:=by
 simp only[Good,List.mem_append]
 exact ⟨fun h=>⟨fun p hp=>h p (Or.inl hp),fun p hp=>h p (Or.inr hp)⟩,fun h p hp=>hp.elim (h.1 p) (h.2 p)⟩
theorem Good.Q {a b:Vapatc.Row} (h:Ps.Q a b):Good a->Good b:=by
 induction h with
 |refl a=>exact id
 |swap r h=>
  intro k
  rw[Good.cons,Good.cons]at k ⊢
  have:=VF k.1 k.2.1 h
  exact ⟨this.1,this.2,k.2.2⟩
 |cons p _ ih=>
  intro k
  rw[Good.cons]at k ⊢
  exact ⟨k.1,ih k.2⟩
 |trans _ _ ih1 ih2=>exact fun k=>ih2 (ih1 k)
theorem Good.ok {a:Vapatc.Row} (h:Good a):Ps.AOk a:=fun p hp=>(h p hp).1
theorem Y8 {p q:Vapatc.Patch} (hp:CM p) (hq:CM q):Ps.cP p q=(VapatBase.commuted p.step q.step).map fun r=>(⟨q.name,r.1⟩,⟨p.name,r.2⟩):=by
 unfold Ps.cP
 rw[if_pos]
 simp[Ps.MA,hp.1,hq.1]
def Y5 (K:PySem.W.Frag) (H:Hp) (v:V):Option (Vapatc.Patch×Vapatc.Patch)->Prop
 |none=>v=.non
 |some r=>∃a x y,v=.ref a/\SqT K H a [x,y]/\Cv K H x r.1/\Cv K H y r.2
theorem X6 {p p1 q:Vapatc.Patch} {r g:Vapatc.Row} {i:Nat} (h:Ps.bh p (r.take i)=some (g,p1)) (hc:Ps.cP p1 q=none) (hq:r[i]?=some q):Ps.bh p r=none:=by
 cases hb:Ps.bh p r with
 |none=>rfl
 |some z=>
  exfalso
  obtain ⟨z1,z2⟩:=z
  obtain ⟨hi,eq⟩:=List.getElem?_eq_some_iff.mp hq
  have e:r=r.take i++q::r.drop (i+1):=by
   rw[<-eq,<-List.drop_eq_getElem_cons hi,List.take_append_drop]
  rw[e]at hb
  obtain ⟨g1,g2,y,a1,a2,-⟩:=Ps.Lo.1 hb
  rw[h]at a1
  cases a1
  obtain ⟨y',x',g',b1,-⟩:=Ps.Av.1 a2
  rw[hc]at b1
  cases b1
section
variable {P:Program} {w:World} {K:PySem.W.Frag} {mg:Str->Option Value} {base:Heap}
abbrev EB:Stmt:=top 38
theorem GE:AC ["first","second","steps"] ["first","second"] (A7 EB):=⟨rfl,rfl,rfl,by decide+kernel,rfl,by decide+kernel,by decide+kernel⟩
def EC (K:PySem.W.Frag):Sp:=fun vs H Q _=>∃(v u:V) (p q:Vapatc.Patch),vs=[v,u]/\Cv K H v p/\Cv K H u q/\CM p/\CM q/\∀H' r,A1 H H'->Y5 K H' r (Ps.cP p q)->Q r H'
theorem Kw (T:Txt K mg) (D:AA K mg "commuted_patches" EB ["first","second"]) (K5:OkF P w K mg base 4 "commuted" ["first","second"] (Mc K)):OkF P w K mg base 5 "commuted_patches" ["first","second"] (EC K):=by
 refine D.ok GE (fun vs H Q E h=>?_) (fun f cdv A outer s H vs Q E hr h=>?_)
 ·obtain ⟨v,u,p,q,rfl,_⟩:=h
  rfl
 ·obtain ⟨v,u,p,q,rfl,⟨a,v1,rfl,hS1,hv⟩,⟨b,u1,rfl,hS2,hu⟩,gp,gq,k⟩:=h
  refine ⟨_,(A2 (AE (i:=2) GE.nd rfl (by nofun) (AD K5 (hr.mono (by decide)) (A0 (AF (r:=AU K) AL (pv 0) A9 (fun _ _=>rfl)) (A0 (AF (r:=AU K) AL (pv 1) A9 (fun _ _=>rfl)) A3))))
   (A2 (AH (AG (C5 (pv 2)))
   (A5 (A6 At))
   AB)
   (A5 (A6 (BL (A0 (BL (A0 (AF (r:=AU K) AL (pv 1) A9 (fun _ _=>rfl)) (A0 (AF (r:=AU K) AL (pv 2) A9 (fun _ _=>rfl)) A3))) (A0 (BL (A0 (AF (r:=AU K) AL (pv 0) A9 (fun _ _=>rfl)) (A0 (AF (r:=AU K) AL (pv 2) A9 (fun _ _=>rfl)) A3))) A3))))))),?_⟩
  trivial
  refine ⟨_,hS1,_,rfl,_,hS2,_,rfl,?_⟩
  refine ⟨v1,u1,p.step,q.step,rfl,hv,hu,gp.2,gq.2,gp.1,gq.1,fun H1 r1 e1 h1=>?_⟩
  have hcc:=Y8 gp gq
  cases hc:VapatBase.commuted p.step q.step with
  |none=>
   rw[hc]at h1 hcc
   refine ifT h1 ?_
   exact k _ _ e1 (by rw[hcc];rfl)
  |some w=>
   obtain ⟨q',p'⟩:=w
   rw[hc]at h1 hcc
   obtain ⟨c,x,y,rfl,hS3,hx,hy⟩:=h1
   refine ifF (fun z=>nomatch z) ?_
   refine ⟨_,A1.tup e1 hS2,_,rfl,_,rfl,_,hS3,_,rfl,AX (by simp),fun r1 hr1=>?_⟩
   have e2:=e1.trans (A1.new (o:=.tup [iN q.name,x]) hr1)
   refine ⟨_,A1.tup e2 hS1,_,rfl,_,rfl,_,A1.tup (A1.new hr1) hS3,_,rfl,AX (by simp),fun r2 hr2=>⟨AX (by simp),fun r3 hr3=>?_⟩⟩
   have e3:A1 (upd H1 r1 (.tup [iN q.name,x])) _:=(A1.new (o:=.tup [iN p.name,y]) hr2).trans (A1.new (o:=.tup [V.ref r1,V.ref r2]) hr3)
   refine k _ _ (e2.trans e3) ?_
   rw[hcc]
   refine ⟨r3,_,_,rfl,SqT.of A4,⟨r1,x,rfl,A1.tup e3 (SqT.of A4),(hx.same (A1.new hr1)).same e3⟩,⟨r2,y,rfl,A1.tup (A1.new hr3) (SqT.of A4),(hy.same (A1.new hr1)).same e3⟩⟩
abbrev EJ:Stmt:=top 36
theorem Fm:AC ["row","patch"] ["row"] (A7 EJ):=⟨rfl,rfl,rfl,by decide+kernel,rfl,by decide+kernel,by decide+kernel⟩
def Bt (K:PySem.W.Frag):Sp:=fun vs H Q _=>∃(v:V) (r:Vapatc.Row),vs=[v]/\BA K H v r/\r.length<=1000/\∀H' a,A1 H H'->H' a=some (.lst ((Ps.nms r).map iN))->Q (.ref a) H'
theorem Ng (T:Txt K mg) (D:AA K mg "names_of_row" EJ ["row"]):OkF P w K mg base 1 "names_of_row" ["row"] (Bt K):=by
 refine D.ok Fm (fun vs H Q E h=>?_) (fun f cdv A outer s H vs Q E hr h=>?_)
 ·obtain ⟨v,r,rfl,_⟩:=h
  rfl
 ·obtain ⟨v,r,rfl,⟨a,xs,rfl,hL,hp⟩,hlen,k⟩:=h
  refine ⟨_,(A5 (A6 (Gn (own:=[("patch",1)]) rfl Fm.nd (B4 (pv 0)) (Ca (N:=["row","patch"]) (sc:=A7 EJ) (by decide+kernel)) (fun _ _ _ _ _=>(AZ (i:=1) Fm.nd rfl (by nofun))) (fun _ _ _ _ _=>Fc) (fun _ _ _ _ _=>(AF (r:=AU K) AL (pv 1) A9 (fun _ _=>rfl)))))),?_⟩
  trivial
  refine ⟨⟨_,SqL.of hL⟩,Lm K (as:=r) (F:=Cv K H) (R:=fun _ p y=>y=iN p.name) (keep:=fun _=>true) (Ay (SqL.of hL)) hp (szl (by rw[Paired.length hp];omega)) (fun _ _ _ _ _ h=>h) ?_ ?_⟩
  ·intro x p hx _ H' e' Qe Qn q1 _
   obtain ⟨b,u,rfl,hS,-⟩:=hx
   exact ⟨by simp[BQ],_,rfl,b,_,0,_,rfl,rfl,A1.tup e' hS,rfl,q1 rfl _ _ (A1.refl _) rfl⟩
  ·intro D H' ys e' hD hp'
   rw[DN]at hp'
   refine k _ D e' ?_
   rw[hD]
   have:ys=(Ps.nms r).map iN:=by
    clear hD hp hlen k
    induction hp' with
    |nil=>rfl
    |cons h _ ih=>rw[h,ih];rfl
   rw[this]
abbrev DK:Stmt:=top 43
theorem Bb:AC ["patch","row","changed","other","pair"] ["patch","row"] (A7 DK):=⟨rfl,rfl,rfl,by decide+kernel,rfl,by decide+kernel,by decide+kernel⟩
def G9 (K:PySem.W.Frag) (H:Hp) (v:V):Option Vapatc.Row->Prop
 |none=>v=.non
 |some r=>BA K H v r
def F7 (K:PySem.W.Frag):Sp:=fun vs H Q _=>∃(v u:V) (p:Vapatc.Patch) (r:Vapatc.Row),vs=[v,u]/\Cv K H v p/\BA K H u r/\CM p/\Good r/\r.length<=1000/\∀H' y,A1 H H'->G9 K H' y ((Ps.bh p r).map fun z=>z.1)->Q y H'
theorem JI (T:Txt K mg) (D:AA K mg "without_patch_ahead" DK ["patch","row"]) (Bi:OkF P w K mg base 5 "commuted_patches" ["first","second"] (EC K)):OkF P w K mg base 6 "without_patch_ahead" ["patch","row"] (F7 K):=by
 refine D.ok Bb (fun vs H Q E h=>?_) (fun f cdv A outer s H vs Q E hr h=>?_)
 ·obtain ⟨v,u,p,r,rfl,_⟩:=h
  rfl
 ·obtain ⟨v,u,p,r,rfl,hv,⟨a,xs,rfl,hL,hp⟩,gp,gr,hlen,k⟩:=h
  refine ⟨_,(A2 (AE (i:=2) Bb.nd rfl (by nofun) (Af A3))
   (A2 (BH PassesOwn.never rfl (B4 (pv 1)) (AZ (i:=3) Bb.nd rfl (by nofun))
   (A2 (AE (i:=4) Bb.nd rfl (by nofun) (AD Bi (hr.mono (by decide)) (A0 (pv 0) (A0 (pv 3) A3))))
    (A2 (AH (AG (C5 (pv 4)))
    (A5 (A6 At))
    AB)
    (A2 (BE (Es PySem.F.plainAttrs_list PySem.F.slot_list_append PySem.F.type_list_append Dk (pv 2) (A0 (AF (r:=AU K) AL (pv 4) A9 (fun _ _=>rfl)) A3)))
    (A5 (AE (i:=0) Bb.nd rfl (by nofun) (AF (r:=AU K) AL (pv 4) A9 (fun _ _=>rfl))))))))
   (A5 (A6 (pv 2))))),?_⟩
  trivial
  refine ⟨AX (by simp),fun c hc=>⟨⟨_,A1.seq (A1.new hc) (SqL.of hL)⟩,?_⟩⟩
  have hlen':xs.length=r.length:=Paired.length hp
  refine FX (H0:=H) (Ay (SqL.of hL)) (fun i σ H'=>A1 H H'/\∃(u:V) (o1 o2:Option V) (g:Vapatc.Row) (p1:Vapatc.Patch) (ys:List V),σ=[some u,some (.ref a),some (.ref c),o1,o2]/\Ps.bh p (r.take i)=some (g,p1)/\CM p1/\Cv K H' u p1/\H' c=some (.lst ys)/\Paired (Cv K H') ys g)
   ⟨A1.new hc,v,none,none,[],p,[],rfl,by simp[Ps.bh],gp,hv.same (A1.new hc),A4,.nil⟩ (fun i σ H' h=>h.1) ?_ ?_
  ·rintro i x σ H' hx ⟨e,u,o1,o2,g,p1,ys,rfl,hb,gp1,hu,hy,hg⟩
   obtain ⟨q,hq,hxq⟩:=By hp hx
   have hsn:=Ai hq
   trivial
   refine ⟨u,x,p1,q,rfl,hu,hxq.same e,gp1,gr q (List.mem_of_getElem? hq),fun H1 y e1 h1=>?_⟩
   cases hcP:Ps.cP p1 q with
   |none=>
    rw[hcP]at h1
    refine ifT h1 ?_
    refine k _ _ (e.trans e1) ?_
    rw[X6 hb hcP hq]
    rfl
   |some z=>
    obtain ⟨q',p2⟩:=z
    rw[hcP]at h1
    obtain ⟨d,x',y',rfl,hS3,hx',hy'⟩:=h1
    have t1:AQ K H1 (upd H1 c (.lst (ys++[x']))):=AQ.lst (e1 _ _ hy)
    have gg:=VF gp1 (gr q (List.mem_of_getElem? hq)) hcP
    refine ifF (fun z=>nomatch z) ⟨.inl ⟨rfl,_,SqL.of (e1 _ _ hy)⟩,d,rfl,_,hS3,_,rfl,ys,e1 _ _ hy,szl ?_,d,rfl,_,t1 _ _ hS3,_,rfl,A1.put (e.trans e1) hc,g++[q'],p2,?_,gg.2,hy'.t t1,ys++[x'],A4,DM (pats.t ((AQ.of e1).trans t1) hg) (hx'.t t1)⟩
    ·rw[Paired.length hg]
     have:=congrArg List.length (Ps.Ee hb).2.1
     simp[Ps.nms]at this
     omega
    ·rw[hsn]
     exact Ps.Lo.2 ⟨g,[q'],p1,hb,Ps.Av.2 ⟨q',p2,[],hcP,rfl,rfl⟩,rfl⟩
  ·rintro σ H' ⟨e,u,o1,o2,g,p1,ys,rfl,hb,gp1,hu,hy,hg⟩
   rw[hlen',List.take_length]at hb
   trivial
   refine k _ _ e ?_
   rw[hb]
   exact ⟨c,ys,rfl,hy,hg⟩
end
end
section
def bring (r:Vapatc.Row) (kp kf:Nat):Option Vapatc.Row:=match r[kp]? with
 |none=>none
 |some p=>(Ps.ah ((r.drop kf).take (kp - kf)) p).map fun z=>r.take kf++z.1::(z.2++r.drop (kp+1))
theorem ixn {n j:Nat} {i:Int} (e:i=(j:Int)) (h:j<n):ixN n i=some j:=by
 subst e
 unfold ixN
 rw[if_pos (by omega),if_pos (by omega)]
 simp
theorem Paired.flip {α β:Type} {F:α->β->Prop}:∀{xs:List α} {as:List β},Paired F xs as->Paired (fun b a=>F a b) as xs
 |_,_,.nil=>.nil
 |_,_,.cons r t=>.cons r (Paired.flip t)
theorem KO {α β:Type} {F:α->β->Prop}:∀{xs:List α} {as:List β} {x:α} {a:β} (i:Nat),Paired F xs as->F x a->Paired F (xs.set i x) (as.set i a)
 |_,_,_,_,_,.nil,_=>.nil
 |_,_,_,_,0,.cons _ t,h=>.cons h t
 |_,_,_,_,i+1,.cons r t,h=>.cons r (KO i t h)
theorem TY {x p p':Vapatc.Patch} {l':Vapatc.Row}:∀{l1 l2:Vapatc.Row},Ps.ah l2 p=some (p',l')->Ps.cP x p'=none->Ps.ah (l1++x::l2) p=none
 |[],l2,h1,h2=>by simp[Ps.ah,h1,h2]
 |y::l1,l2,h1,h2=>by simp[Ps.ah,TY (l1:=l1) h1 h2]
section
variable {P:Program} {w:World} {K:PySem.W.Frag} {mg:Str->Option Value} {base:Heap}
abbrev FM:Stmt:=top 39
theorem Dm:AC ["row","place","front","changed","behind","pair"] ["row","place","front"] (A7 FM):=⟨rfl,rfl,rfl,by decide+kernel,rfl,by decide+kernel,by decide+kernel⟩
def Dn (K:PySem.W.Frag):Sp:=fun vs H Q _=>∃(v:V) (r:Vapatc.Row) (kp kf:Nat),vs=[v,iN kp,iN kf]/\BA K H v r/\Good r/\r.length<=1000/\kf<=kp/\kp<r.length/\∀H' y,A1 H H'->G9 K H' y (bring r kp kf)->Q y H'
theorem Mt (T:Txt K mg) (D:AA K mg "brought_ahead" FM ["row","place","front"]) (Bi:OkF P w K mg base 5 "commuted_patches" ["first","second"] (EC K)):OkF P w K mg base 6 "brought_ahead" ["row","place","front"] (Dn K):=by
 refine D.ok Dm (fun vs H Q E h=>?_) (fun f cdv A outer s H vs Q E hr h=>?_)
 ·obtain ⟨v,r,kp,kf,rfl,_⟩:=h
  rfl
 ·obtain ⟨v,r,kp,kf,rfl,⟨a,xs,rfl,hL,hp⟩,gr,hlen,hk,hk2,k⟩:=h
  obtain ⟨p,hpk⟩:∃p,r[kp]?=some p:=⟨r[kp],by simp[hk2]⟩
  have hlen':xs.length=r.length:=Paired.length hp
  refine ⟨_,(A2 (AE (i:=3) Dm.nd rfl (by nofun) (Cg G4 (by rfl) T.list PyProof.Rows.boot_list (A0 (pv 0) A3)))
   (A2 (BH PassesOwn.never rfl (Vh rfl T.range (A0 (pv 1) (A0 (pv 2) (A0 (OT M0 A9) A3)))) (AZ (i:=4) Dm.nd rfl (by nofun))
   (A2 (AE (i:=5) Dm.nd rfl (by nofun) (AD Bi (hr.mono (by decide)) (A0 (AF (r:=B6 K) Ak (pv 3) (As Ia (pv 4) A9) (fun _ _=>rfl)) (A0 (AF (r:=B6 K) Ak (pv 3) (pv 4) (fun _ _=>rfl)) A3))))
    (A2 (AH (AG (C5 (pv 5)))
    (A5 (A6 At))
    AB)
    (A2 (Vm (AF (r:=AU K) AL (pv 5) A9 (fun _ _=>rfl)) (Va (pv 3) (As Ia (pv 4) A9) RX))
    (A5 (Vm (AF (r:=AU K) AL (pv 5) A9 (fun _ _=>rfl)) (Va (pv 3) (pv 4) RX)))))))
   (A5 (A6 (pv 3))))),?_⟩
  unfold iN at*
  trivial
  refine ⟨_,.inl (SqL.of hL),fun c hc=>⟨(kp:Int),(kf:Int),-1,⟨rfl,rfl,rfl⟩,((kp:Int) - kf).toNat,RgC.neg (by omega) (by omega) (by omega) (by omega),?_⟩⟩
  have e0:A1 H (upd H c (.lst xs)):=A1.new hc
  refine FX (H0:=H) SM (fun i σ H'=>A1 H H'/\∃(o1 o2:Option V) (p':Vapatc.Patch) (l':Vapatc.Row) (ys:List V),σ=[some (.ref a),some (.int kp),some (.int kf),some (.ref c),o1,o2]/\i<=kp - kf/\Ps.ah ((r.drop (kp - i)).take i) p=some (p',l')/\
    H' c=some (.lst ys)/\Paired (Cv K H') ys (r.take (kp - i)++p'::(l'++r.drop (kp+1))))
   ⟨e0,none,none,p,[],xs,rfl,Nat.zero_le _,by simp[Ps.ah],A4,?_⟩ (fun i σ H' h=>h.1) ?_ ?_
  ·have er:r.take (kp - 0)++p::([]++r.drop (kp+1))=r:=by
    have:=List.drop_eq_getElem_cons hk2
    rw[List.getElem?_eq_getElem hk2]at hpk
    rw[Option.some.inj hpk]at this
    rw[List.nil_append,<-this,Nat.sub_zero,List.take_append_drop]
   rw[er]
   exact pats.same e0 hp
  ·rintro i x σ H' hx ⟨e,o1,o2,p',l',ys,rfl,hi,ha,hy,hg⟩
   have hi2:i<kp - kf:=by
    have:=(List.getElem?_eq_some_iff.mp hx).1
    simp at this
    omega
   have hx2:x=V.int ((kp - i:Nat):Int):=by
    rw[List.getElem?_map]at hx
    rw[List.getElem?_range (by omega)]at hx
    simp at hx
    rw[<-hx]
    congr 1
    omega
   subst hx2
   have hj:kp - i - 1<r.length:=by omega
   have hlt:(r.take (kp - i)).length=kp - i:=by simp;omega
   obtain ⟨z,hz⟩:∃z,r[kp - i - 1]?=some z:=⟨r[kp - i - 1],by simp[hj]⟩
   have hsplit:r.take (kp - i)=r.take (kp - i - 1)++[z]:=by
    have:=Ai hz
    rw[show kp - i - 1+1=kp - i by omega]at this
    exact this
   have hrow:r.take (kp - i)++p'::(l'++r.drop (kp+1))=r.take (kp - i - 1)++(z::p'::(l'++r.drop (kp+1))):=by rw[hsplit];simp
   have hlt1:(r.take (kp - i - 1)).length=kp - i - 1:=by simp;omega
   rw[hrow]at hg
   obtain ⟨z1,hz1,hzv⟩:=By (Paired.flip hg) (i:=kp - i - 1) (a:=z) (by rw[List.getElem?_append_right (by omega),hlt1];simp)
   obtain ⟨z2,hz2,hpv⟩:=By (Paired.flip hg) (i:=kp - i) (a:=p') (by rw[List.getElem?_append_right (by omega),hlt1,show kp - i - (kp - i - 1)=1 by omega];simp)
   have gz:CM z:=gr z (List.mem_of_getElem? hz)
   have gmid:Good ((r.drop (kp - i)).take i++[p]):=Good.append.2 ⟨fun q hq=>gr q (List.mem_of_mem_drop (List.mem_of_mem_take hq)),fun q hq=>by simp at hq;subst hq;exact gr q (List.mem_of_getElem? hpk)⟩
   have gp':CM p':=(Good.cons.1 (Good.Q (Ps.KS ha).1 gmid)).1
   trivial
   refine ⟨_,SqL.of hy,z1,R0 (j:=kp - i - 1) (by omega) hz1,_,SqL.of hy,z2,R0 (j:=kp - i) rfl hz2,?_⟩
   refine ⟨z1,z2,z,p',rfl,hzv,hpv,gz,gp',fun H1 y e1 h1=>?_⟩
   have hmid:(r.drop (kp - (i+1))).take (i+1)=z::(r.drop (kp - i)).take i:=by
    have h1:kp - (i+1)<r.length:=by omega
    rw[List.drop_eq_getElem_cons h1,List.take_succ_cons]
    have h2:r[kp - (i+1)]=z:=by
     have h3:r[kp - (i+1)]?=some z:=by rw[show kp - (i+1)=kp - i - 1 by omega];exact hz
     rw[List.getElem?_eq_getElem h1]at h3
     exact Option.some.inj h3
    rw[h2,show kp - (i+1)+1=kp - i by omega]
   cases hcP:Ps.cP z p' with
   |none=>
    rw[hcP]at h1
    refine ifT h1 ?_
    refine k _ _ (e.trans e1) ?_
    have:bring r kp kf=none:=by
     unfold bring
     rw[hpk]
     have em:(r.drop kf).take (kp - kf)=(r.drop kf).take (kp - kf - (i+1))++z::(r.drop (kp - i)).take i:=by
      rw[<-hmid]
      have h9:r.drop (kp - (i+1))=(r.drop kf).drop (kp - kf - (i+1)):=by rw[List.drop_drop];congr 1;omega
      rw[h9]
      conv=>lhs;rw[show kp - kf=(kp - kf - (i+1))+(i+1) by omega]
      rw[List.take_add]
     simp only
     rw[em,TY ha hcP]
     rfl
    rw[this]
    rfl
   |some w2=>
    obtain ⟨p2,x1⟩:=w2
    rw[hcP]at h1
    obtain ⟨d,x',y',rfl,hS3,hx',hy'⟩:=h1
    have hy1:=e1 _ _ hy
    refine ifF (fun z=>nomatch z) ?_
    have t1:AQ K H1 (upd H1 c (.lst (ys.set (kp - i - 1) x'))):=AQ.lst hy1
    have t2:AQ K H1 (upd H1 c (.lst ((ys.set (kp - i - 1) x').set (kp - i) y'))):=AQ.lst hy1
    have hyl:ys.length=r.length:=by
     rw[Paired.length hg]
     have:=congrArg List.length (Ps.KS ha).2.1
     simp[Ps.nms]at this
     simp[hlt1]
     omega
    refine ⟨d,rfl,_,hS3,_,rfl,ys,hy1,kp - i - 1,ixn (by omega) (by omega),d,rfl,_,t1 _ _ hS3,_,rfl,_,A4,kp - i,ixn rfl (by rw[List.length_set];omega),?_⟩
    rw[C7]
    refine ⟨A1.put (e.trans e1) hc,by omega,p2,x1::l',?_,_,A4,?_⟩
    ·rw[hmid]
     exact Ps.PX.2 ⟨p',l',x1,ha,hcP,rfl⟩
    ·have hg2:=KO (kp - i) (KO (kp - i - 1) (pats.t ((AQ.of e1).trans t2) hg) (hx'.t t2)) (hy'.t t2)
     have er:((r.take (kp - i - 1)++(z::p'::(l'++r.drop (kp+1)))).set (kp - i - 1) p2).set (kp - i) x1=r.take (kp - (i+1))++p2::((x1::l')++r.drop (kp+1)):=by
      rw[List.set_append_right _ _ (by omega),hlt1,List.set_append_right _ _ (by omega),hlt1]
      rw[show kp - i - 1 - (kp - i - 1)=0 by omega,show kp - i - (kp - i - 1)=1 by omega]
      simp[show kp - i - 1=kp - (i+1) by omega]
     rw[er]at hg2
     exact hg2
  ·rintro σ H' ⟨e,o1,o2,p',l',ys,rfl,hi,ha,hy,hg⟩
   trivial
   refine k _ _ e ?_
   have hn:((List.range ((kp:Int) - kf).toNat).map fun i=>V.int ((kp:Int)+(i:Nat)*-1)).length=kp - kf:=by simp
   rw[hn]at ha hg
   have:bring r kp kf=some (r.take kf++p'::(l'++r.drop (kp+1))):=by
    unfold bring
    rw[hpk]
    simp only
    rw[show kp - (kp - kf)=kf by omega]at ha
    rw[ha]
    rfl
   rw[this]
   rw[show kp - (kp - kf)=kf by omega]at hg
   exact ⟨c,ys,rfl,hy,hg⟩
end
end
section
theorem Ga {X:Cx} {K:PySem.W.Frag} {es:List Expr} {k:Nat} {pos:Pos} {t:TGs} {n:Nat} (hK:X.K=K) (hc:X.calm=true) (h:PGs X es t)
  (hn:(assignEach es X.env).length=n:=by rfl) (hst:(assignEach es X.env).findIdx? (·.1)=none:=by rfl):PG X (.Tuple es k pos) (RY K n t):=by
 subst hK
 exact Xr hc h hn hst
theorem Hd {α β:Type} {F:α->β->Prop}:∀{l l2:List α} {m m2:List β},Paired F l m->Paired F l2 m2->Paired F (l++l2) (m++m2)
 |_,_,_,_,.nil,h=>h
 |_,_,_,_,.cons r t,h=>.cons r (Hd t h)
theorem Me {α β:Type} {F:α->β->Prop}:∀(n:Nat) {l:List α} {m:List β},Paired F l m->Paired F (l.take n) (m.take n)
 |0,_,_,_=>by simp;exact .nil
 |n+1,_,_,.nil=>.nil
 |n+1,_,_,.cons r t=>.cons r (Me n t)
theorem KZ {α β:Type} {F:α->β->Prop}:∀{l:List α} {m:List β},Paired F l m->Paired F l.reverse m.reverse
 |_,_,.nil=>.nil
 |_,_,.cons r t=>by
  rw[List.reverse_cons,List.reverse_cons]
  exact DM (KZ t) r
theorem OZ {α β γ:Type} {G:γ->β->Prop} {f:α->β}:∀{l:List α} {ys:List γ},Paired (fun a y=>G y (f a)) l ys->Paired G ys (l.map f)
 |_,_,.nil=>.nil
 |_,_,.cons r t=>.cons r (OZ t)
theorem JC {α β:Type} {F:α->β->Prop}:∀{xs:List α} {as:List β} {a:β},Paired F xs (as++[a])->∃ys y,xs=ys++[y]/\Paired F ys as/\F y a
 |_,[],a,.cons r .nil=>⟨[],_,rfl,.nil,r⟩
 |_,b::as,a,.cons r t=>by
  obtain ⟨ys,y,rfl,h1,h2⟩:=JC t
  exact ⟨_::ys,y,rfl,.cons r h1,h2⟩
theorem Wd {ys:List V} {y:V}:BG (ys++[y]) none (some (-1))=ys:=by
 unfold BG
 rw[HT.sIx_none]
 have:HT.sIx (ys++[y]).length (ys++[y]).length (some (-1))=ys.length:=by
  unfold HT.sIx
  simp
  omega
 rw[this]
 simp
theorem XM {l m m' l' l1:Vapatc.Row} {q q1:Vapatc.Patch} (h:Ps.rc l m=some (m',l')) (ha:Ps.ah l' q=some (q1,l1)):Ps.rc l (m++[q])=some (m'++[q1],l1):=by
 induction m generalizing l m' with
 |nil=>
  simp[Ps.rc]at h
  obtain ⟨rfl,rfl⟩:=h
  simp[Ps.rc,ha]
 |cons x m ih=>
  obtain ⟨q2,l2,m2,e1,e2,rfl⟩:=Ps.Du.1 h
  exact Ps.Du.2 ⟨q2,l2,m2++[q1],e1,ih e2,rfl⟩
theorem X0 {l m1 m2 m' l':Vapatc.Row} {q:Vapatc.Patch} (h:Ps.rc l m1=some (m',l')) (ha:Ps.ah l' q=none):Ps.rc l (m1++q::m2)=none:=by
 induction m1 generalizing l m' with
 |nil=>
  simp[Ps.rc]at h
  obtain ⟨rfl,rfl⟩:=h
  simp[Ps.rc,ha]
 |cons x m ih=>
  obtain ⟨q2,l2,m3,e1,e2,rfl⟩:=Ps.Du.1 h
  simp[Ps.rc,e1,ih e2]
theorem TX {l b:Vapatc.Row} {x:Vapatc.Patch}:Ps.bf (l++[x]) b=match Ps.bh x (Ps.bf l b) with
  |some (b',_)=>b'
  |none=>x::Ps.bf l b:=by
 induction l generalizing b with
 |nil=>
  first
   |(simp only[List.nil_append,Ps.bf];done)
   |(simp only[List.nil_append,Ps.bf];cases Ps.bh x b<;>rfl)
 |cons y l ih=>
  simp only[List.cons_append,Ps.bf]
  cases Ps.bh y b with
  |none=>exact ih
  |some z=>exact ih
section
variable {P:Program} {w:World} {K:PySem.W.Frag} {mg:Str->Option Value} {base:Heap}
abbrev Cz:Stmt:=top 45
theorem D0:AC ["row","name","step"] ["row"] (A7 Cz):=⟨rfl,rfl,rfl,by decide+kernel,rfl,by decide+kernel,by decide+kernel⟩
def GF (K:PySem.W.Frag):Sp:=fun vs H Q _=>∃(v:V) (r:Vapatc.Row),vs=[v]/\BA K H v r/\r.length<=1000/\∀H' y,A1 H H'->BA K H' y (Ps.turnR r)->Q y H'
theorem Kx (T:Txt K mg) (D:AA K mg "row_turned_round" Cz ["row"]) (GJ:OkF P w K mg base 1 "turned_round" ["step"] (Ix K)):OkF P w K mg base 2 "row_turned_round" ["row"] (GF K):=by
 refine D.ok D0 (fun vs H Q E h=>?_) (fun f cdv A outer s H vs Q E hr h=>?_)
 ·obtain ⟨v,r,rfl,_⟩:=h
  rfl
 ·obtain ⟨v,r,rfl,⟨a,xs,rfl,hL,hp⟩,hlen,k⟩:=h
  refine ⟨_,(A5 (A6 (Gn (own:=[("name",1),("step",2)]) rfl D0.nd (Mi rfl T.reversed (A0 (pv 0) A3)) (Ca (N:=["row","name","step"]) (sc:=A7 Cz) (by decide+kernel)) (fun _ _ _ _ _=>(Ga (K:=K) (n:=2) rfl rfl (C2 (AZ (i:=1) D0.nd rfl (by nofun)) (C2 (AZ (i:=2) D0.nd rfl (by nofun)) Gc)))) (fun _ _ _ _ _=>Fc) (fun _ _ _ _ _=>(BL (A0 (pv 1) (A0 (AD GJ (hr.mono (by decide)) (A0 (pv 2) A3)) A3))))))),?_⟩
  trivial
  refine ⟨_,SqL.of hL,Lm K (as:=r.reverse) (F:=Cv K H) (R:=fun H p y=>Cv K H y (Ps.tP p)) (keep:=fun _=>true) (Pl (SqL.of hL)) (KZ hp) (szl (by rw[List.length_reverse,Paired.length hp];omega)) (fun _ _ _ _ e h=>h.t e) ?_ ?_⟩
  ·intro x p hx _ H' e' Qe Qn q1 _
   obtain ⟨b,u,rfl,hS,hu⟩:=hx.same e'
   refine ⟨b,_,rfl,hS,rfl,_,_,rfl,_,_,rfl,rfl,by simp[BQ],?_⟩
   trivial
   refine ⟨_,rfl,_,rfl,u,p.step,rfl,hu,fun H1 y e1 h1=>⟨AX (by simp),fun q hq=>q1 rfl _ _ (e1.trans (A1.new hq)) ⟨q,y,rfl,SqT.of A4,h1.same (A1.new hq)⟩⟩⟩
  ·intro D H' ys e' hD hp'
   rw[DN]at hp'
   refine k _ _ e' ⟨D,ys,rfl,hD,?_⟩
   have:Ps.turnR r=r.reverse.map Ps.tP:=by simp[Ps.turnR]
   rw[this]
   exact OZ hp'
abbrev L8:Stmt:=top 46
theorem Iz:AC ["first","second","row","front"] ["first","second"] (A7 L8):=⟨rfl,rfl,rfl,by decide+kernel,rfl,by decide+kernel,by decide+kernel⟩
def Pd (K:PySem.W.Frag):Sp:=fun vs H Q _=>∃(v u:V) (a b:Vapatc.Row),vs=[v,u]/\BA K H v a/\BA K H u b/\Good a/\Good b/\a.length<=400/\b.length<=400/\∀H' y,A1 H H'->G9 K H' y ((Ps.rc (Ps.turnR a) b).map fun z=>z.1)->Q y H'
theorem Uz (T:Txt K mg) (D:AA K mg "merged" L8 ["first","second"]) (ET:OkF P w K mg base 2 "row_turned_round" ["row"] (GF K)) (BC:OkF P w K mg base 6 "brought_ahead" ["row","place","front"] (Dn K)):OkF P w K mg base 7 "merged" ["first","second"] (Pd K):=by
 refine D.ok Iz (fun vs H Q E h=>?_) (fun f cdv A outer s H vs Q E hr h=>?_)
 ·obtain ⟨v,u,a,b,rfl,_⟩:=h
  rfl
 ·obtain ⟨v,u,a,b,rfl,hv,hu,ga,gb,la,lb,k⟩:=h
  have hu0:=hu
  have hv0:=hv
  obtain ⟨pa,xa,rfl,hLa,hpa⟩:=hv
  obtain ⟨pb,xb,rfl,hLb,hpb⟩:=hu
  have la':xa.length=a.length:=Paired.length hpa
  have lb':xb.length=b.length:=Paired.length hpb
  refine ⟨_,(A2 (AE (i:=2) Iz.nd rfl (by nofun) (As FA (AD ET (hr.mono (by decide)) (A0 (pv 0) A3)) (pv 1)))
   (A2 (BH PassesOwn.never rfl (JE rfl T.range (A0 (AN AJ (by rfl) T.len PySem.boot_len (A0 (pv 1) A3)) A3)) (AZ (i:=3) Iz.nd rfl (by nofun))
   (A2 (AE (i:=2) Iz.nd rfl (by nofun) (AD BC (hr.mono (by decide)) (A0 (pv 2) (A0 (As Bk (AN AJ (by rfl) T.len PySem.boot_len (A0 (pv 0) A3)) (pv 3)) (A0 (pv 3) A3)))))
    (A5 (AH (AG (C5 (pv 2)))
    (A5 (A6 At))
    AB))))
   (A5 (A6 (Bh (r:=HZ K) Fa (pv 2) D9 (Ba (AN AJ (by rfl) T.len PySem.boot_len (A0 (pv 1) A3)))))))),?_⟩
  trivial
  refine ⟨_,a,rfl,hv0,by omega,fun H1 y e1 h1=>?_⟩
  obtain ⟨py,xy,rfl,hLy,hpy⟩:=h1
  have ly':xy.length=a.length:=by
   rw[Paired.length hpy]
   simp[Ps.turnR]
  refine ⟨py,rfl,xy,hLy,xb,e1 _ _ hLb,AX (by omega),fun c hc=>⟨xb,.inl (SqL.of (A1.new hc _ _ (e1 _ _ hLb))),by omega,by omega,?_⟩⟩
  have e2:A1 H (upd H1 c (.lst (xy++xb))):=e1.trans (A1.new hc)
  have gt:Good (Ps.turnR a):=fun q hq=>by
   simp[Ps.turnR]at hq
   obtain ⟨x,hx,rfl⟩:=hq
   refine ⟨Ps.okt (ga x hx).1,?_⟩
   have:=(ga x hx).2
   revert this
   show BX x.step->BX (VapatBase.turned x.step)
   cases x.step<;>simp[BX,VapatBase.turned]
   intro h1 h2
   exact ⟨h2,h1⟩
  refine FX (H0:=H) Gr (fun i σ H'=>A1 H H'/\∃(o1:Option V) (y:V) (m' l':Vapatc.Row),σ=[some (.ref pa),some (.ref pb),some y,o1]/\i<=b.length/\Ps.rc (Ps.turnR a) (b.take i)=some (m',l')/\BA K H' y (m'++(l'++b.drop i)))
   ⟨e2,none,_,[],Ps.turnR a,rfl,Nat.zero_le _,by simp[Ps.rc],c,xy++xb,rfl,A4,?_⟩ (fun i σ H' h=>h.1) ?_ ?_
  ·simp only[List.nil_append,List.drop_zero]
   exact Hd (pats.same (A1.new hc) hpy) (pats.same e2 hpb)
  ·rintro i x σ H' hx ⟨e,o1,y,m',l',rfl,hi,hrc,hy⟩
   have hi2:i<b.length:=by
    have:=(List.getElem?_eq_some_iff.mp hx).1
    simp at this
    omega
   have hx2:x=V.int ((i:Nat):Int):=by
    rw[List.getElem?_map]at hx
    rw[List.getElem?_range (by omega)]at hx
    simp at hx
    exact hx.symm
   subst hx2
   obtain ⟨q,hq⟩:∃q,b[i]?=some q:=⟨b[i],by simp[hi2]⟩
   have sound:=Ps.Cu hrc
   have lm:m'.length=i:=by
    have:=congrArg List.length sound.2.1
    simp[Ps.nms]at this
    omega
   have ll:l'.length=a.length:=by
    have:=congrArg List.length sound.2.2
    simp[Ps.nms,Ps.turnR]at this
    omega
   have hd:b.drop i=q::b.drop (i+1):=by
    rw[List.drop_eq_getElem_cons hi2]
    rw[List.getElem?_eq_getElem hi2]at hq
    rw[Option.some.inj hq]
   have gb1:Good (b.take i):=fun z hz=>gb z (List.mem_of_mem_take hz)
   have gml:Good (m'++l'):=Good.Q sound.1 (Good.append.2 ⟨gt,gb1⟩)
   have gall:Good (m'++(l'++b.drop i)):=Good.append.2 ⟨(Good.append.1 gml).1,Good.append.2 ⟨(Good.append.1 gml).2,fun z hz=>gb z (List.mem_of_mem_drop hz)⟩⟩
   trivial
   refine ⟨_,.inl (SqL.of (e _ _ hLa)),?_⟩
   refine ⟨y,_,a.length+i,i,by simp[iN,la'],hy,gall,by simp;omega,by omega,by simp;omega,fun H2 y2 e3 h2=>?_⟩
   have hbr:bring (m'++(l'++b.drop i)) (a.length+i) i=(Ps.ah l' q).map fun z=>m'++z.1::(z.2++b.drop (i+1)):=by
    unfold bring
    rw[hd]
    have g1:(m'++(l'++q::b.drop (i+1)))[a.length+i]?=some q:=by
     rw[List.getElem?_append_right (by omega),List.getElem?_append_right (by omega),show a.length+i - m'.length - l'.length=0 by omega]
     simp
    rw[g1]
    simp only
    have g2:((m'++(l'++q::b.drop (i+1))).drop i).take (a.length+i - i)=l':=by
     rw[<-lm,List.drop_left,show a.length+m'.length - m'.length=l'.length by omega,List.take_left]
    have g3:(m'++(l'++q::b.drop (i+1))).take i=m':=by rw[<-lm,List.take_left]
    have g4:(m'++(l'++q::b.drop (i+1))).drop (a.length+i+1)=b.drop (i+1):=by
     rw[<-List.append_assoc,List.drop_append,List.drop_eq_nil_of_le (by simp;omega),show a.length+i+1 - (m'++l').length=1 by simp;omega]
     simp
    rw[g2,g3,g4]
   rw[hbr]at h2
   cases ha:Ps.ah l' q with
   |none=>
    rw[ha]at h2
    refine ifT h2 ?_
    refine k _ _ (e.trans e3) ?_
    have:b=b.take i++q::b.drop (i+1):=by rw[<-hd,List.take_append_drop]
    rw[this,X0 hrc ha]
    rfl
   |some z=>
    obtain ⟨q1,l1⟩:=z
    rw[ha]at h2
    obtain ⟨py2,xy2,rfl,hL2,hp2⟩:=h2
    refine ifF (fun z=>nomatch z) ⟨e.trans e3,_,_,⟨rfl,rfl⟩,by omega,m'++[q1],l1,?_,py2,xy2,rfl,hL2,?_⟩
    ·rw[Ai hq]
     exact XM hrc ha
    ·simpa using hp2
  ·rintro σ H' ⟨e,o1,y,m',l',rfl,hi,hrc,hy⟩
   have hn:((List.range ((xb.length:Int)).toNat).map fun i=>V.int (0+((i:Nat):Int))).length=b.length:=by simp[lb']
   rw[hn,List.take_length]at hrc
   rw[hn,List.drop_length,List.append_nil]at hy
   obtain ⟨py2,xy2,rfl,hL2,hp2⟩:=hy
   trivial
   refine ⟨_,.inl (SqL.of (e _ _ hLb)),_,SqL.of hL2,fun d hd=>?_⟩
   refine k _ _ (e.trans (A1.new hd)) ?_
   rw[hrc]
   have lm:m'.length=b.length:=by
    have:=congrArg List.length (Ps.Cu hrc).2.1
    simpa [Ps.nms] using this
   have hcut:BG xy2 none (some (xb.length:Int))=xy2.take b.length:=by
    unfold BG
    rw[HT.sIx_none,HT.sIx_nat,Nat.min_eq_left (by rw[Paired.length hp2,lb'];simp;omega)]
    simp[lb']
   refine ⟨d,xy2.take b.length,rfl,by rw[hcut,A4],?_⟩
   have:=Me b.length hp2
   rw[List.take_append_of_le_length (by omega),<-lm,List.take_length]at this
   rw[<-lm]
   exact pats.same (A1.new hd) this
abbrev GK:Stmt:=top 44
theorem Cj:AC ["row","block","patch","changed"] ["row"] (A7 GK):=⟨rfl,rfl,rfl,by decide+kernel,rfl,by decide+kernel,by decide+kernel⟩
def Jh (K:PySem.W.Frag):Sp:=fun vs H Q _=>∃(v:V) (r:Vapatc.Row) (p:Vapatc.Patch),vs=[v]/\BA K H v (r++[p])/\Good (r++[p])/\r.length<=400/\∀H' y,A1 H H'->BA K H' y (Ps.bf r.reverse [p])->Q y H'
theorem Oi (T:Txt K mg) (D:AA K mg "picked_last" GK ["row"]) (DX:OkF P w K mg base 6 "without_patch_ahead" ["patch","row"] (F7 K)):OkF P w K mg base 7 "picked_last" ["row"] (Jh K):=by
 refine D.ok Cj (fun vs H Q E h=>?_) (fun f cdv A outer s H vs Q E hr h=>?_)
 ·obtain ⟨v,r,p,rfl,_⟩:=h
  rfl
 ·obtain ⟨v,r,p,rfl,⟨a,xs,rfl,hL,hp⟩,gr,hlen,k⟩:=h
  obtain ⟨ys,y,rfl,hys,hy⟩:=JC hp
  have ly:ys.length=r.length:=Paired.length hys
  refine ⟨_,(A2 (AE (i:=1) Cj.nd rfl (by nofun) (Af (A0 (AF (r:=B6 K) Ak (pv 0) (OT M0 A9) (fun _ _=>rfl)) A3)))
   (A2 (BH PassesOwn.never rfl (Mi rfl T.reversed (A0 (Bh (r:=HZ K) Fa (pv 0) D9 (Ba (OT M0 A9))) A3)) (AZ (i:=2) Cj.nd rfl (by nofun))
   (A2 (AE (i:=3) Cj.nd rfl (by nofun) (AD DX (hr.mono (by decide)) (A0 (pv 2) (A0 (pv 1) A3))))
    (A5 (AH (AG (C5 (pv 3)))
    (A5 (AE (i:=1) Cj.nd rfl (by nofun) (As FA (Af (A0 (pv 2) A3)) (pv 1))))
    (A5 (AE (i:=1) Cj.nd rfl (by nofun) (pv 3)))))))
   (A5 (A6 (pv 1))))),?_⟩
  trivial
  refine ⟨_,SqL.of hL,y,WM _ _,AX (by simp),fun c hc=>⟨_,SqL.of (A1.new hc _ _ hL),fun d hd=>⟨_,SqL.of A4,?_⟩⟩⟩
  rw[Wd]
  have e1:A1 H (upd H c (.lst [y])):=A1.new hc
  have e2:A1 H (upd (upd H c (.lst [y])) d (.lst ys)):=e1.trans (A1.new hd)
  have hcd:c≠d:=AV (H:=upd H c (.lst [y])) A4 hd
  refine FX (H0:=upd (upd H c (.lst [y])) d (.lst ys)) (Pl (SqL.of A4)) (fun i σ H'=>A1 (upd (upd H c (.lst [y])) d (.lst ys)) H'/\∃(o1 o2:Option V) (b:V),σ=[some (.ref a),some b,o1,o2]/\i<=r.length/\BA K H' b (Ps.bf (r.reverse.take i) [p]))
   ⟨A1.refl _,none,none,_,rfl,Nat.zero_le _,c,[y],rfl,by rw[A8 hcd,A4],?_⟩ (fun i σ H' h=>h.1) ?_ ?_
  ·simp only[List.take_zero,Ps.bf]
   exact .cons (hy.same e2) .nil
  ·rintro i x σ H' hx ⟨e,o1,o2,b,rfl,hi,hb⟩
   obtain ⟨q,hq,hxq⟩:=By (KZ hys) hx
   have hi2:i<r.length:=by
    have:=(List.getElem?_eq_some_iff.mp hq).1
    simpa using this
   have hb0:=hb
   obtain ⟨pb,xb,rfl,hLb,hpb⟩:=hb
   have gq:CM q:=gr q (List.mem_append_left _ (by have:=List.mem_of_getElem? hq;simpa using this))
   have gall:Good ((r.reverse.take i).reverse++[p]):=Good.append.2 ⟨fun z hz=>gr z (List.mem_append_left _ (by simp at hz;have:=List.mem_of_mem_take hz;simpa using this)),fun z hz=>gr z (List.mem_append_right _ hz)⟩
   have lenb:∀(l:Vapatc.Row) (b:Vapatc.Row),(Ps.bf l b).length<=l.length+b.length:=by
    intro l
    induction l with
    |nil=>intro b;simp[Ps.bf]
    |cons z l ih=>
     intro b
     simp only[Ps.bf]
     cases hz:Ps.bh z b with
     |none=>have:=ih (z::b);simp at this ⊢;omega
     |some w=>
      obtain ⟨b',z'⟩:=w
      have h1:=ih b'
      have h2:=congrArg List.length (Ps.Ee hz).2.1
      simp[Ps.nms]at h2
      simp only[List.length_cons]
      omega
   have goodb:∀(l:Vapatc.Row) (b:Vapatc.Row),Good l->Good b->Good (Ps.bf l b):=by
    intro l
    induction l with
    |nil=>intro b _ hb;exact hb
    |cons z l ih=>
     intro b hl hb
     obtain ⟨gz,gl⟩:=Good.cons.1 hl
     simp only[Ps.bf]
     cases hz:Ps.bh z b with
     |none=>exact ih _ gl (Good.cons.2 ⟨gz,hb⟩)
     |some w=>
      obtain ⟨b',z'⟩:=w
      exact ih _ gl (Good.append.1 (Good.Q (Ps.Ee hz).1 (Good.cons.2 ⟨gz,hb⟩))).1
   have gp:CM p:=gr p (by simp)
   have gb:Good (Ps.bf (r.reverse.take i) [p]):=goodb _ _ (fun z hz=>gr z (List.mem_append_left _ (by have:=List.mem_of_mem_take hz;simpa using this))) (fun z hz=>by simp at hz;subst hz;exact gp)
   have lb:=lenb (r.reverse.take i) [p]
   simp at lb
   trivial
   refine ⟨x,_,q,_,rfl,hxq.same (e2.trans e),hb0,gq,gb,by omega,fun H1 z e3 h1=>?_⟩
   have hsn:=Ai hq
   cases hbh:Ps.bh q (Ps.bf (r.reverse.take i) [p]) with
   |none=>
    rw[hbh]at h1
    refine ifT h1 ?_
    refine ⟨AX (by simp),fun t ht=>⟨_,A4,_,A1.new ht _ _ (e3 _ _ hLb),AX ?_,fun t2 ht2=>?_⟩⟩
    ·rw[Paired.length hpb]
     simp
     omega
    ·have e4:A1 H1 _:=(A1.new (o:=.lst [x]) ht).trans (A1.new (o:=.lst ([x]++xb)) ht2)
     refine ⟨(e.trans e3).trans e4,_,_,_,⟨rfl,rfl,rfl⟩,by omega,t2,[x]++xb,rfl,A4,?_⟩
     rw[hsn,TX,hbh]
     exact .cons (hxq.same (((e2.trans e).trans e3).trans e4)) (pats.same (e3.trans e4) hpb)
   |some w=>
    obtain ⟨b',z'⟩:=w
    rw[hbh]at h1
    obtain ⟨t,xt,rfl,hLt,hpt⟩:=h1
    refine ifF (fun z=>nomatch z) ⟨e.trans e3,_,_,_,⟨rfl,rfl,rfl⟩,by omega,t,xt,rfl,hLt,?_⟩
    rw[hsn,TX,hbh]
    exact hpt
  ·rintro σ H' ⟨e,o1,o2,b,rfl,hi,hb⟩
   rw[List.length_reverse,ly,<-List.length_reverse,List.take_length]at hb
   trivial
   exact k _ _ (e2.trans e) hb
end
end
section
theorem Ve {x l r2:Vapatc.Row} {p:Vapatc.Patch}:bring (x++(l++p::r2)) (x.length+l.length) x.length=(Ps.ah l p).map fun z=>x++z.1::(z.2++r2):=by
 unfold bring
 have g1:(x++(l++p::r2))[x.length+l.length]?=some p:=by
  rw[List.getElem?_append_right (by omega),List.getElem?_append_right (by omega),show x.length+l.length - x.length - l.length=0 by omega]
  simp
 rw[g1]
 simp only
 have g2:((x++(l++p::r2)).drop x.length).take (x.length+l.length - x.length)=l:=by
  rw[List.drop_left,show x.length+l.length - x.length=l.length by omega,List.take_left]
 have g4:(x++(l++p::r2)).drop (x.length+l.length+1)=r2:=by
  rw[<-List.append_assoc,List.drop_append,List.drop_eq_nil_of_le (by simp),show x.length+l.length+1 - (x++l).length=1 by simp]
  simp
 rw[g2,g4,List.take_left]
theorem E9 (l:List Nat):Paired (fun x n=>x=iN n) (l.map iN) l:=by
 induction l with
 |nil=>exact .nil
 |cons n l ih=>exact .cons rfl ih
theorem Df:∀{l:List Nat} {ys:List V},Paired (fun n y=>y=iN n) l ys->ys=l.map iN
 |_,_,.nil=>rfl
 |_,_,.cons h t=>by rw[h,Df t];rfl
theorem Jd {α β:Type} {F:α->β->Prop}:∀(n:Nat) {l:List α} {m:List β},Paired F l m->Paired F (l.drop n) (m.drop n)
 |0,_,_,h=>h
 |n+1,_,_,.nil=>.nil
 |n+1,_,_,.cons r t=>Jd n t
theorem NV {xs:List V} {n m:Nat} (h:n=m):BG xs (some (n:Int)) none=xs.drop m:=by
 subst h
 unfold BG
 rw[HT.sIx_none,HT.sIx_nat]
 by_cases hn:n<=xs.length
 ·rw[Nat.min_eq_left hn]
  exact List.take_of_length_le (by rw[List.length_drop];exact Nat.le_refl _)
 ·rw[Nat.min_eq_right (by omega),List.drop_eq_nil_of_le (Nat.le_refl _),List.drop_eq_nil_of_le (by omega)]
  exact List.take_nil
theorem G9.same {K:PySem.W.Frag} {H H':Hp} {v:V} {o:Option Vapatc.Row} (e:A1 H H') (h:G9 K H v o):G9 K H' v o:=by
 cases o with
 |none=>exact h
 |some r=>exact BA.same e h
section
variable {P:Program} {w:World} {K:PySem.W.Frag} {mg:Str->Option Value} {base:Heap}
abbrev ED:Stmt:=top 40
theorem CF:AC ["row","names","changed","front","name"] ["row","names"] (A7 ED):=⟨rfl,rfl,rfl,by decide+kernel,rfl,by decide+kernel,by decide+kernel⟩
def GG (K:PySem.W.Frag):Sp:=fun vs H Q _=>∃(v:V) (r:Vapatc.Row) (b:Addr) (ns:List Nat),vs=[v,.ref b]/\BA K H v r/\SqL K H b (ns.map iN)/\Good r/\r.length<=400/\(Ps.nms r).Nodup/\ns.Nodup/\(∀n∈ns,n∈Ps.nms r)/\
 ∀H' y,A1 H H'->G9 K H' y ((Vapate.takeFront ns r).map fun z=>z.1++z.2)->Q y H'
theorem Ky (T:Txt K mg) (D:AA K mg "brought_to_front" ED ["row","names"]) (Ad:OkF P w K mg base 1 "names_of_row" ["row"] (Bt K)) (BC:OkF P w K mg base 6 "brought_ahead" ["row","place","front"] (Dn K)):OkF P w K mg base 7 "brought_to_front" ["row","names"] (GG K):=by
 refine D.ok CF (fun vs H Q E h=>?_) (fun f cdv A outer s H vs Q E hr h=>?_)
 ·obtain ⟨v,r,b,ns,rfl,_⟩:=h
  rfl
 ·obtain ⟨v,r,b,ns,rfl,hv,hN,gr,hlen,hnd,hns,hsub,k⟩:=h
  refine ⟨_,(A2 (AE (i:=2) CF.nd rfl (by nofun) (pv 0))
   (A2 (BH PassesOwn.never rfl (PM rfl T.enumerate (A0 (pv 1) A3)) (Ga (K:=K) (n:=2) rfl rfl (C2 (AZ (i:=3) CF.nd rfl (by nofun)) (C2 (AZ (i:=4) CF.nd rfl (by nofun)) Gc)))
   (A2 (AE (i:=2) CF.nd rfl (by nofun) (AD BC (hr.mono (by decide)) (A0 (pv 2) (A0 (Es (r:=VM K) PySem.F.plainAttrs_list PySem.F.slot_list_index PySem.F.type_list_index WA (AD Ad (hr.mono (by decide)) (A0 (pv 2) A3)) (A0 (pv 4) A3)) (A0 (pv 3) A3)))))
    (A5 (AH (AG (C5 (pv 2)))
    (A5 (A6 At))
    AB))))
   (A5 (A6 (pv 2))))),?_⟩
  trivial
  refine ⟨⟨_,hN⟩,WQ (H0:=H) hN (fun i σ H'=>A1 H H'/\∃(y:V) (o1 o2:Option V) (x Ax:Vapatc.Row),σ=[some v,some (.ref b),some y,o1,o2]/\Vapate.takeFront (ns.take i) r=some (x,Ax)/\BA K H' y (x++Ax)) ⟨A1.refl H,v,none,none,[],r,rfl,rfl,hv⟩ (fun i σ H' h=>h.1) ?_ ?_⟩
  ·rintro i z T2 σ H' hz ⟨e,y,o1,o2,x,Ax,rfl,htf,hy⟩ hT
   obtain ⟨n,hn,rfl⟩:∃n,ns[i]?=some n/\z=iN n:=by
    rw[List.getElem?_map]at hz
    cases hh:ns[i]? with
    |none=>rw[hh]at hz;cases hz
    |some n=>rw[hh]at hz;exact ⟨n,rfl,(Option.some.inj hz).symm⟩
   have hi:i<ns.length:=(List.getElem?_eq_some_iff.mp hn).1
   obtain ⟨hq,hx⟩:=Ps.C3 gr.ok hnd htf
   have lx:x.length=i:=by
    have:=congrArg List.length hx
    simp[Ps.nms]at this
    omega
   have nd2:=hq.nodup hnd
   have hns1:n∉ns.take i:=by
    intro hm
    obtain ⟨j,hj,ej⟩:=List.mem_iff_getElem.1 hm
    have hj':j<i:=by simp at hj;omega
    have:ns[j]?=some n:=by
     rw[List.getElem_take]at ej
     rw[List.getElem?_eq_getElem (by omega),ej]
    have:=YY hns this hn
    omega
   have hmem:n∈Ps.nms Ax:=by
    have:=(hq.mem (n:=n)).1 (hsub n (List.mem_of_getElem? hn))
    rw[Ps.AO,List.mem_append,hx]at this
    rcases this with h|h
    ·exact absurd h hns1
    ·exact h
   obtain ⟨l,p,r2,rfl,hpn,hl⟩:=Ps.Lv hmem
   have gall:=Good.Q hq gr
   have hl2:=hq.len
   simp at hl2
   have hfr:=Ps.Gm (l:=l) (r:=r2) hl hpn (Good.append.1 gall).2.ok
   trivial
   have e':A1 H' (upd H' T2 (.tup [.int (i:Nat),iN n])):=A1.new hT
   refine ⟨_,SqT.of A4,rfl,_,_,rfl,_,_,rfl,rfl,?_⟩
   have hnm:Ps.nms (x++(l++p::r2))=(Ps.nms x++Ps.nms l)++n::Ps.nms r2:=by simp[Ps.nms,hpn]
   have hxl:(Ps.nms x++Ps.nms l).length=i+l.length:=by simp[Ps.nms,lx]
   refine ⟨y,_,rfl,hy.same e',by simp;omega,fun H1 a1 e1 h1=>⟨.inl ⟨rfl,_,SqL.of h1⟩,a1,_,_,i+l.length,iN n,rfl,rfl,SqL.of h1,rfl,Dz _,?_,by simp[iN,eqV],?_,?_⟩⟩
   ·rw[hnm,List.getElem?_map,List.getElem?_append_right (by omega),hxl]
    simp
   ·intro m z' hm hz'
    rw[hnm,List.getElem?_map,List.getElem?_append_left (by omega)]at hz'
    cases hh:(Ps.nms x++Ps.nms l)[m]? with
    |none=>rw[hh]at hz';cases hz'
    |some t=>
     rw[hh]at hz'
     cases hz'
     have ht:t∈Ps.nms x++Ps.nms l:=List.mem_of_getElem? hh
     have htn:t≠n:=by
      rintro rfl
      rcases List.mem_append.1 ht with h|h
      ·rw[hx]at h;exact hns1 h
      ·exact hl h
     simp only[iN,eqV,beq_eq_false_iff_ne]
     omega
   ·refine ⟨y,_,i+l.length,i,rfl,(hy.same e').same e1,gall,by simp;omega,by omega,by simp;omega,fun H2 y2 e2 h2=>?_⟩
    have e3:A1 H H2:=((e.trans e').trans e1).trans e2
    have hb:bring (x++(l++p::r2)) (i+l.length) i=(Ps.ah l p).map fun z=>x++z.1::(z.2++r2):=by
     rw[<-lx]
     exact Ve
    rw[hb]at h2
    cases ha:Ps.ah l p with
    |none=>
     rw[ha]at h2 hfr
     refine ifT h2 ?_
     refine k _ _ e3 ?_
     have hns2:ns=ns.take i++n::ns.drop (i+1):=by
      have:=List.drop_eq_getElem_cons hi
      rw[List.getElem?_eq_getElem hi]at hn
      rw[Option.some.inj hn]at this
      rw[<-this,List.take_append_drop]
     rw[hns2,Ps.TU htf hfr]
     rfl
    |some w2=>
     obtain ⟨p1,l1⟩:=w2
     rw[ha]at h2 hfr
     have h3:=h2
     obtain ⟨pc,xc,rfl,-⟩:=h3
     refine ifF (fun z=>nomatch z) ⟨e3,x++[p1],l1++r2,?_,?_⟩
     ·rw[Ai hn,Ps.TF,htf]
      simp[hfr]
     ·have h4:BA K H2 (V.ref pc) (x++p1::(l1++r2)):=h2
      simpa using h4
  ·rintro σ H' ⟨e,y,o1,o2,x,Ax,rfl,htf,hy⟩
   rw[List.length_map,List.take_length]at htf
   trivial
   exact k _ _ e (by rw[htf];exact hy)
abbrev FN:Stmt:=top 41
theorem Co:AC ["row","front","best","place","changed"] ["row","front"] (A7 FN):=⟨rfl,rfl,rfl,by decide+kernel,rfl,by decide+kernel,by decide+kernel⟩
def I0 (K:PySem.W.Frag):Sp:=fun vs H Q _=>∃(v:V) (r:Vapatc.Row) (kf:Nat),vs=[v,iN kf]/\BA K H v r/\Good r/\r.length<=400/\kf<r.length/\
 ∀H' y c,A1 H H'->Ps.FV (r.drop kf) (r.length - kf)=some c->BA K H' y (r.take kf++c.1::c.2)->Q y H'
theorem Mu (T:Txt K mg) (D:AA K mg "with_least_at" FN ["row","front"]) (BC:OkF P w K mg base 6 "brought_ahead" ["row","place","front"] (Dn K)):OkF P w K mg base 7 "with_least_at" ["row","front"] (I0 K):=by
 refine D.ok Co (fun vs H Q E h=>?_) (fun f cdv A outer s H vs Q E hr h=>?_)
 ·obtain ⟨v,r,kf,rfl,_⟩:=h
  rfl
 ·obtain ⟨v,r,kf,rfl,hv,gr,hlen,hk,k⟩:=h
  have hv0:=hv
  obtain ⟨a,xs,rfl,hL,hp⟩:=hv
  have lx:xs.length=r.length:=Paired.length hp
  refine ⟨_,(A2 (AE (i:=2) Co.nd rfl (by nofun) At)
   (A2 (BH PassesOwn.never rfl (Vk rfl T.range (A0 (pv 1) (A0 (AN AJ (by rfl) T.len PySem.boot_len (A0 (pv 0) A3)) A3))) (AZ (i:=3) Co.nd rfl (by nofun))
   (A2 (AE (i:=4) Co.nd rfl (by nofun) (AD BC (hr.mono (by decide)) (A0 (pv 0) (A0 (pv 3) (A0 (pv 1) A3)))))
    (A5 (AH (PW.pt (HG (AG (Di (pv 4))) (Hw (PW.pt (Ce (AG (C5 (pv 2))) (Cs (BZ Qs (AF (r:=AU K) AL (AF (r:=B6 K) Ak (pv 4) (pv 1) (fun _ _=>rfl)) A9 (fun _ _=>rfl)) (AF (r:=AU K) AL (AF (r:=B6 K) Ak (pv 2) (pv 1) (fun _ _=>rfl)) A9 (fun _ _=>rfl)) (DI _))))))))
    (A5 (AE (i:=2) Co.nd rfl (by nofun) (pv 4)))
    AB))))
   (A5 (A6 (pv 2))))),?_⟩
  unfold iN at*
  trivial
  refine ⟨_,.inl (SqL.of hL),_,_,⟨rfl,rfl⟩,⟨by omega,by omega,by omega,by omega⟩,?_⟩
  have nn:((xs.length:Int) - (kf:Int)).toNat=r.length - kf:=by omega
  rw[nn]
  refine FX (H0:=H) Gr (fun i σ H'=>A1 H H'/\∃(y:V) (o1 o2:Option V),σ=[some (.ref a),some (.int kf),some y,o1,o2]/\i<=r.length - kf/\G9 K H' y ((Ps.FV (r.drop kf) i).map fun c=>r.take kf++c.1::c.2))
   ⟨A1.refl H,.non,none,none,rfl,Nat.zero_le _,rfl⟩ (fun i σ H' h=>h.1) ?_ ?_
  ·rintro i x σ H' hx ⟨e,y,o1,o2,rfl,hi,hy⟩
   have hi2:i<r.length - kf:=by
    have:=(List.getElem?_eq_some_iff.mp hx).1
    simpa using this
   have hx2:x=V.int ((kf+i:Nat):Int):=by
    rw[List.getElem?_map]at hx
    rw[List.getElem?_range (by omega)]at hx
    simp at hx
    rw[<-hx]
    congr 1
   subst hx2
   have hbr:bring r (kf+i) kf=(Ps.FY (r.drop kf) i).map fun c=>r.take kf++c.1::c.2:=by
    unfold bring Ps.FY
    rw[List.getElem?_drop]
    cases r[kf+i]? with
    |none=>rfl
    |some p=>
     simp only[show kf+i - kf=i by omega,List.drop_drop,show kf+(i+1)=kf+i+1 by omega]
     cases Ps.ah ((r.drop kf).take i) p with
     |none=>rfl
     |some z=>rfl
   trivial
   refine ⟨_,r,kf+i,kf,rfl,hv0.same e,gr,by omega,by omega,by omega,fun H1 z e1 h1=>?_⟩
   rw[hbr]at h1
   cases hc:Ps.FY (r.drop kf) i with
   |none=>
    rw[hc]at h1
    refine ifF (fun z=>z h1) ⟨e.trans e1,by omega,?_⟩
    simp only[Ps.FV,hc]
    exact G9.same e1 hy
   |some c=>
    rw[hc]at h1
    have h1':=h1
    obtain ⟨pz,xz,rfl,hLz,hpz⟩:=h1'
    refine ifT (fun z=>nomatch z) ?_
    cases hb:Ps.FV (r.drop kf) i with
    |none=>
     rw[hb]at hy
     refine ifT hy ⟨e.trans e1,by omega,?_⟩
     simp only[Ps.FV,hc,hb]
     exact h1
    |some b=>
     rw[hb]at hy
     have hy':=hy
     obtain ⟨py,xy,rfl,hLy,hpy⟩:=hy'
     refine ifF (fun z=>nomatch z) ?_
     have lt:(r.take kf).length=kf:=by simp;omega
     obtain ⟨v1,hv1,hpv1⟩:=By (Paired.flip hpz) (i:=kf) (a:=c.1) (by rw[List.getElem?_append_right (by omega),lt];simp)
     obtain ⟨v2,hv2,hpv2⟩:=By (Paired.flip hpy) (i:=kf) (a:=b.1) (by rw[List.getElem?_append_right (by omega),lt];simp)
     obtain ⟨a1,u1,rfl,hS1,-⟩:=hpv1
     obtain ⟨a2,u2,rfl,hS2,-⟩:=hpv2
     refine ⟨pz,rfl,_,SqL.of hLz,_,R0 rfl hv1,a1,rfl,_,hS1,_,rfl,py,rfl,_,SqL.of (e1 _ _ hLy),_,R0 rfl hv2,a2,rfl,_,A1.tup e1 hS2,_,rfl,_,rfl,_,rfl,?_⟩
     have hbest:Ps.FV (r.drop kf) (i+1)=if c.1.name<b.1.name then some c else some b:=by simp only[Ps.FV,hc,hb]
     split
     next hlt=>
      refine ⟨e.trans e1,by omega,?_⟩
      rw[hbest,if_pos (by omega)]
      exact h1
     next hlt=>
      refine ⟨e.trans e1,by omega,?_⟩
      rw[hbest,if_neg (by omega)]
      exact G9.same e1 hy
  ·rintro σ H' ⟨e,y,o1,o2,rfl,hi,hy⟩
   rw[List.length_map,List.length_range]at hy
   trivial
   have hne:r.drop kf≠[]:=by
    intro hz
    have:=congrArg List.length hz
    simp at this
    omega
   rcases Ps.JB (r.drop kf) (r.length - kf) with ⟨h1,h2⟩|⟨c,j,h1,-⟩
   ·exfalso
    have:=h2 0 (by omega)
    cases hd:r.drop kf with
    |nil=>exact hne hd
    |cons p t=>rw[hd,Ps.Q3]at this;cases this
   ·rw[h1]at hy
    exact k _ _ c e h1 hy
abbrev JJ:Stmt:=top 42
theorem Gk:AC ["row","changed","front"] ["row"] (A7 JJ):=⟨rfl,rfl,rfl,by decide+kernel,rfl,by decide+kernel,by decide+kernel⟩
def Md (K:PySem.W.Frag):Sp:=fun vs H Q _=>∃(v:V) (r:Vapatc.Row),vs=[v]/\BA K H v r/\Good r/\r.length<=400/\(Ps.nms r).Nodup/\∀H' y,A1 H H'->BA K H' y (Vapatc.form r)->Q y H'
theorem SW (T:Txt K mg) (D:AA K mg "one_form" JJ ["row"]) (Fo:OkF P w K mg base 7 "with_least_at" ["row","front"] (I0 K)):OkF P w K mg base 8 "one_form" ["row"] (Md K):=by
 refine D.ok Gk (fun vs H Q E h=>?_) (fun f cdv A outer s H vs Q E hr h=>?_)
 ·obtain ⟨v,r,rfl,_⟩:=h
  rfl
 ·obtain ⟨v,r,rfl,hv,gr,hlen,hnd,k⟩:=h
  have hv0:=hv
  obtain ⟨a,xs,rfl,hL,hp⟩:=hv
  have lx:xs.length=r.length:=Paired.length hp
  refine ⟨_,(A2 (AE (i:=1) Gk.nd rfl (by nofun) (pv 0))
   (A2 (BH PassesOwn.never rfl (JE rfl T.range (A0 (AN AJ (by rfl) T.len PySem.boot_len (A0 (pv 0) A3)) A3)) (AZ (i:=2) Gk.nd rfl (by nofun))
   (A5 (AE (i:=1) Gk.nd rfl (by nofun) (AD Fo (hr.mono (by decide)) (A0 (pv 1) (A0 (pv 2) A3))))))
   (A5 (A6 (pv 1))))),?_⟩
  trivial
  refine ⟨_,.inl (SqL.of hL),by omega,by omega,?_⟩
  have nn:((xs.length:Int)).toNat=r.length:=by omega
  rw[nn]
  refine FX (H0:=H) Gr (fun i σ H'=>A1 H H'/\∃(y:V) (o1:Option V) (pre Ax:Vapatc.Row),σ=[some (.ref a),some y,o1]/\pre.length=i/\Ps.Q r (pre++Ax)/\pre++Vapatc.form Ax=Vapatc.form r/\BA K H' y (pre++Ax))
   ⟨A1.refl H,_,none,[],r,rfl,rfl,.refl _,rfl,hv0⟩ (fun i σ H' h=>h.1) ?_ ?_
  ·rintro i x σ H' hx ⟨e,y,o1,pre,Ax,rfl,hi,hq,hf,hy⟩
   have hi2:i<r.length:=by
    have:=(List.getElem?_eq_some_iff.mp hx).1
    simpa using this
   have hx2:x=V.int ((i:Nat):Int):=by
    rw[List.getElem?_map]at hx
    rw[List.getElem?_range (by omega)]at hx
    simp at hx
    exact hx.symm
   subst hx2
   have hl:=hq.len
   simp at hl
   have g2:=Good.Q hq gr
   have nd2:=hq.nodup hnd
   have hrest:Ax≠[]:=by
    rintro rfl
    simp at hl
    omega
   obtain ⟨c,h1,h2,h3⟩:=Ps.Q5 (Good.append.1 g2).2.ok (Ps.Ac nd2).2.1 hrest
   trivial
   refine ⟨y,_,i,rfl,hy,g2,by simp;omega,by simp;omega,fun H1 z c' e1 hb h4=>?_⟩
   subst hi
   rw[List.drop_left,show (pre++Ax).length - pre.length=Ax.length by simp,h1]at hb
   cases hb
   rw[List.take_left]at h4
   refine ⟨e.trans e1,pre++[c.1],by simp,c.2,hq.trans (by simpa using h3.append_left pre),?_,?_⟩
   ·rw[<-hf,h2]
    simp
   ·simpa using h4
  ·rintro σ H' ⟨e,y,o1,pre,Ax,rfl,hi,hq,hf,hy⟩
   rw[List.length_map,List.length_range]at hi
   have hl:=hq.len
   simp at hl
   have hrest:Ax=[]:=List.eq_nil_of_length_eq_zero (by omega)
   subst hrest
   trivial
   refine k _ _ e ?_
   rw[<-hf,Ps.Wi]
   exact hy
abbrev J0:Stmt:=top 47
theorem EU:AC ["first","second","second_names","common","first_row","second_row","second_rest","name"] ["first","second"] (A7 J0):=⟨rfl,rfl,rfl,by decide+kernel,rfl,by decide+kernel,by decide+kernel⟩
def L9 (K:PySem.W.Frag):Sp:=fun vs H Q _=>∃(v u:V) (a b:Vapatc.Row),vs=[v,u]/\BA K H v a/\BA K H u b/\Good a/\Good b/\a.length<=200/\b.length<=200/\(Ps.nms a).Nodup/\(Ps.nms b).Nodup/\∀H' y,A1 H H'->G9 K H' y (Ps.jn a b)->Q y H'
theorem V0 (T:Txt K mg) (D:AA K mg "joined" J0 ["first","second"]) (Ad:OkF P w K mg base 1 "names_of_row" ["row"] (Bt K)) (DA:OkF P w K mg base 7 "brought_to_front" ["row","names"] (GG K)) (Mv:OkF P w K mg base 7 "merged" ["first","second"] (Pd K)):
  OkF P w K mg base 8 "joined" ["first","second"] (L9 K):=by
 refine D.ok EU (fun vs H Q E h=>?_) (fun f cdv A outer s H vs Q E hr h=>?_)
 ·obtain ⟨v,u,a,b,rfl,_⟩:=h
  rfl
 ·obtain ⟨v,u,a,b,rfl,hv,hu,ga,gb,la,lb,na,nb,k⟩:=h
  refine ⟨_,(A2 (AE (i:=2) EU.nd rfl (by nofun) (AD Ad (hr.mono (by decide)) (A0 (pv 1) A3)))
   (A2 (S2 (i:=3) (own:=[("name",7)]) rfl EU.nd rfl rfl (TK rfl rfl (by rfl) (by rfl)) (B4 (AD Ad (hr.mono (by decide)) (A0 (pv 0) A3))) (Ca (N:=["first","second","second_names","common","first_row","second_row","second_rest","name"]) (sc:=A7 J0) (by decide+kernel)) (fun _ _ _ _ _=>(AZ (i:=7) EU.nd rfl (by nofun))) (fun _ _ _ _ _=>(ML (BZ (r:=rIn K false) Dj (pv 7) (pv 2) (by with_unfolding_all rfl)))) (fun _ _ _ _ _=>(pv 7)))
   (A2 (AE (i:=4) EU.nd rfl (by nofun) (AD DA (hr.mono (by decide)) (A0 (pv 0) (A0 (pv 3) A3))))
   (A2 (AE (i:=5) EU.nd rfl (by nofun) (AD DA (hr.mono (by decide)) (A0 (pv 1) (A0 (pv 3) A3))))
   (A2 (AH (PW.pt (Ce (AG (C5 (pv 4))) (Cs (AG (C5 (pv 5))))))
   (A5 (A6 At))
   AB)
   (A2 (AE (i:=6) EU.nd rfl (by nofun) (AD Mv (hr.mono (by decide)) (A0 (Bh (r:=HZ K) Fa (pv 4) (Ba (AN AJ (by rfl) T.len PySem.boot_len (A0 (pv 3) A3))) D9) (A0 (Bh (r:=HZ K) Fa (pv 5) (Ba (AN AJ (by rfl) T.len PySem.boot_len (A0 (pv 3) A3))) D9) A3))))
   (A2 (AH (AG (C5 (pv 6)))
   (A5 (A6 At))
   AB)
   (A5 (A6 (As FA (pv 4) (pv 6))))))))))),?_⟩
  trivial
  refine ⟨u,b,rfl,hu,by omega,fun H1 a1 e1 h1=>?_⟩
  refine ⟨v,a,rfl,hv.same e1,by omega,fun H2 a2 e2 h2=>?_⟩
  refine ⟨a2,rfl,⟨_,SqL.of h2⟩,Lm K (as:=Ps.nms a) (F:=fun x n=>x=iN n) (R:=fun _ n y=>y=iN n) (keep:=fun n=>(Ps.nms b).contains n) (Ay (SqL.of h2)) (E9 _) (szl (by rw[List.length_map,List.length_map];omega)) (fun _ _ _ _ _ h=>h) ?_ ?_⟩
  ·intro x n hx _ H' e' Qe Qn q1 q2
   subst hx
   refine ⟨by simp[BQ],_,rfl,_,rfl,a1,_,rfl,.inl (SqL.of (e' _ _ (e2 _ _ h1))),rfl,Dz _,_,rfl,?_⟩
   simp only[Bool.false_eq_true,if_false]
   rw[Fe]
   cases hc:(Ps.nms b).contains n with
   |true=>exact ifT rfl ⟨_,rfl,q1 hc _ _ (A1.refl _) rfl⟩
   |false=>exact ifF (by simp) (q2 hc _ (A1.refl _))
  ·intro D H' ys e' hD hp'
   have hys:ys=(Ps.Bc a b).map iN:=Df hp'
   rw[hys]at hD
   have e3:A1 H H':=(e1.trans e2).trans e'
   have hcn:(Ps.Bc a b).Nodup:=List.Nodup.sublist List.filter_sublist na
   have hca:∀n∈Ps.Bc a b,n∈Ps.nms a:=fun n hn=>(List.mem_filter.1 hn).1
   have hcb:∀n∈Ps.Bc a b,n∈Ps.nms b:=fun n hn=>by simpa using (List.mem_filter.1 hn).2
   refine ⟨v,a,D,Ps.Bc a b,rfl,hv.same e3,SqL.of hD,ga,by omega,na,hcn,hca,fun H3 y e4 h3=>?_⟩
   refine ⟨u,b,D,Ps.Bc a b,rfl,hu.same (e3.trans e4),SqL.of (e4 _ _ hD),gb,by omega,nb,hcn,hcb,fun H4 y2 e5 h4=>?_⟩
   have e6:A1 H H4:=(e3.trans e4).trans e5
   have hD4:=e5 _ _ (e4 _ _ hD)
   cases t1:Vapate.takeFront (Ps.Bc a b) a with
   |none=>
    rw[t1]at h3
    exact ifT h3 (k _ _ e6 (by simp only[Ps.jn,t1];rfl))
   |some w1=>
    obtain ⟨x,rx⟩:=w1
    rw[t1]at h3
    obtain ⟨p1,x1,rfl,hL1,hp1⟩:=h3
    refine ifF (fun z=>nomatch z) ?_
    cases t2:Vapate.takeFront (Ps.Bc a b) b with
    |none=>
     rw[t2]at h4
     exact ifT h4 (k _ _ e6 (by simp only[Ps.jn,t1,t2];rfl))
    |some w2=>
     obtain ⟨x',ry⟩:=w2
     rw[t2]at h4
     obtain ⟨p2,x2,rfl,hL2,hp2⟩:=h4
     refine ifF (fun z=>nomatch z) ?_
     obtain ⟨q1,n1⟩:=Ps.C3 ga.ok na t1
     obtain ⟨q2,n2⟩:=Ps.C3 gb.ok nb t2
     have l1:x.length=(Ps.Bc a b).length:=by rw[<-n1];simp[Ps.nms]
     have l2:x'.length=(Ps.Bc a b).length:=by rw[<-n2];simp[Ps.nms]
     have ln1:=q1.len
     have ln2:=q2.len
     simp at ln1 ln2
     have hL1':=e5 _ _ hL1
     have cut1:BG x1 (some ((((Ps.Bc a b).map iN).length:Nat):Int)) none=x1.drop x.length:=NV (by rw[List.length_map,l1])
     have cut2:BG x2 (some ((((Ps.Bc a b).map iN).length:Nat):Int)) none=x2.drop x'.length:=NV (by rw[List.length_map,l2])
     refine ⟨D,rfl,_,.inl (SqL.of hD4),p1,rfl,_,SqL.of hL1',fun c hc=>?_⟩
     refine ⟨D,rfl,_,.inl (SqL.of (A1.new hc _ _ hD4)),p2,rfl,_,SqL.of (A1.new hc _ _ hL2),fun d hd=>?_⟩
     rw[cut1,cut2]
     rw[cut1]at hd
     have e7:A1 H4 (upd H4 c (.lst (x1.drop x.length))):=A1.new hc
     have e8:A1 (upd H4 c (.lst (x1.drop x.length))) (upd (upd H4 c (.lst (x1.drop x.length))) d (.lst (x2.drop x'.length))):=A1.new hd
     have hp1':=Jd x.length hp1
     rw[List.drop_left]at hp1'
     have hp2':=Jd x'.length hp2
     rw[List.drop_left]at hp2'
     have g1:=Good.append.1 (Good.Q q1 ga)
     have g2:=Good.append.1 (Good.Q q2 gb)
     refine ⟨_,_,rx,ry,rfl,⟨c,_,rfl,e8 _ _ A4,pats.same ((e5.trans e7).trans e8) hp1'⟩,⟨d,_,rfl,A4,pats.same (e7.trans e8) hp2'⟩,g1.2,g2.2,by omega,by omega,fun H5 z e9 h5=>?_⟩
     have e10:A1 H H5:=((e6.trans e7).trans e8).trans e9
     cases hrc:Ps.rc (Ps.turnR rx) ry with
     |none=>
      rw[hrc]at h5
      exact ifT h5 (k _ _ e10 (by simp only[Ps.jn,t1,t2,Option.bind_some,hrc];rfl))
     |some m=>
      rw[hrc]at h5
      obtain ⟨pz,xz,rfl,hLz,hpz⟩:=h5
      refine ifF (fun z=>nomatch z) ?_
      have hL1'':=e9 _ _ (e8 _ _ (e7 _ _ hL1'))
      have lm:=congrArg List.length (Ps.Cu hrc).2.1
      simp[Ps.nms]at lm
      refine ⟨p1,rfl,pz,rfl,_,hL1'',_,hLz,AX ?_,fun t ht=>?_⟩
      ·rw[Paired.length hp1,Paired.length hpz]
       simp only[List.length_append]
       omega
      ·refine k _ _ (e10.trans (A1.new ht)) ?_
       have:Ps.jn a b=some (x++(rx++m.1)):=by simp only[Ps.jn,t1,t2,Option.bind_some,hrc];rfl
       rw[this,<-List.append_assoc]
       exact ⟨t,x1++xz,rfl,A4,Hd (pats.same ((((e5.trans e7).trans e8).trans e9).trans (A1.new ht)) hp1) (pats.same (A1.new ht) hpz)⟩
end
end
section
def Jx (K:PySem.W.Frag) (H:Hp) (v:V):Option VapatBase.Step->Prop
 |none=>v=.non
 |some p=>An K H v p
theorem NR {α:Type} {l:List α} (h:l.length=2):∃x y,l=[x,y]:=by
 match l,h with
 |[x,y],_=>exact ⟨x,y,rfl⟩
theorem Yp {α:Type} {l:List α} (h:l.length=3):∃x y z,l=[x,y,z]:=by
 match l,h with
 |[x,y,z],_=>exact ⟨x,y,z,rfl⟩
theorem Ym {α:Type} {l:List α} (h:l.length=4):∃x y z t,l=[x,y,z,t]:=by
 match l,h with
 |[x,y,z,t],_=>exact ⟨x,y,z,t,rfl⟩
theorem U6 {ns:List Int} (h:ns.length≠4):Ps.BM ns=none:=by
 unfold Ps.BM
 split
 ·simp at h
 ·rfl
theorem VX {ns:List Int} (h:ns.length≠2):Ps.DD ns=none:=by
 unfold Ps.DD
 split
 ·simp at h
 ·rfl
theorem US {ns:List Int} (h:ns.length≠3):Ps.Bz ns=none:=by
 unfold Ps.Bz
 split
 ·simp at h
 ·rfl
theorem DS {a b:Prop} [Decidable a] [Decidable b]:(decide a&&decide b)=false↔¬(a/\b):=by
 rw[<-Bool.not_eq_true,Bool.and_eq_true,decide_eq_true_eq,decide_eq_true_eq]
theorem E3 {z:Int} (h:0<=z):iN z.toNat=V.int z:=by
 unfold iN
 rw[Int.toNat_of_nonneg h]
section
variable {P:Program} {w:World} {K:PySem.W.Frag} {mg:Str->Option Value} {base:Heap}
abbrev IA:Stmt:=top 16
theorem R7:AC ["numbers"] ["numbers"] (A7 IA):=⟨rfl,rfl,rfl,by decide+kernel,rfl,by decide+kernel,by decide+kernel⟩
def LA (K:PySem.W.Frag):Sp:=fun vs H Q _=>∃(a:Addr) (ns:List Int),vs=[.ref a]/\SqL K H a (ns.map V.int)/\ns.length<=5000/\ns[0]?=some 1/\∀H' v,A1 H H'->Jx K H' v (Ps.BM ns)->Q v H'
theorem R8 (T:Txt K mg) (D:AA K mg "read_swap" IA ["numbers"]) (Am:OkF P w K mg base 1 "is_file_name" ["number"] CV) (Dl:OkF P w K mg base 1 "is_token" ["number"] JG):OkF P w K mg base 2 "read_swap" ["numbers"] (LA K):=by
 refine D.ok R7 (fun vs H Q E h=>?_) (fun f cdv A outer s H vs Q E hr h=>?_)
 ·obtain ⟨a,ns,rfl,_⟩:=h
  rfl
 ·obtain ⟨a,ns,rfl,hS,hlen,h0,k⟩:=h
  refine ⟨_,(A2 (AH (PW.pt (Ce (AG (Lu (AN AJ (by rfl) T.len PySem.boot_len (A0 (pv 0) A3)) A9)) (Cs (Bd (Bv (AD Am (hr.mono (by decide)) (A0 (AF (r:=B6 K) Ak (pv 0) A9 (fun _ _=>rfl)) A3)))))))
   (A5 (A6 At))
   AB)
   (A2 (AH (PW.pt (Ce (Bd (Bv (AD Dl (hr.mono (by decide)) (A0 (AF (r:=B6 K) Ak (pv 0) A9 (fun _ _=>rfl)) A3)))) (Ce (Bd (Bv (AD Dl (hr.mono (by decide)) (A0 (AF (r:=B6 K) Ak (pv 0) A9 (fun _ _=>rfl)) A3)))) (Cs (AG (Ab (AF (r:=B6 K) Ak (pv 0) A9 (fun _ _=>rfl)) (AF (r:=B6 K) Ak (pv 0) A9 (fun _ _=>rfl))))))))
   (A5 (A6 At))
   AB)
   (A5 (A6 (Cg E4 (by rfl) T.tuple PyProof.Rows.boot_tuple (A0 (pv 0) A3)))))),?_⟩
  trivial
  refine ⟨_,.inl hS,?_⟩
  rw[List.length_map]
  by_cases hl:ns.length=4
  ·refine ifF (by simp only[hl];decide) ?_
   obtain ⟨z,g,x,y,rfl⟩:=Ym hl
   cases h0
   refine ⟨_,hS,_,rfl,g,rfl,_,rfl,?_⟩
   by_cases c1:0<=g/\g<=9
   ·refine ifF (by rw[DS];exact fun h=>h c1) ⟨_,hS,_,rfl,x,rfl,_,rfl,?_⟩
    by_cases c2:0<=x/\x<=99
    ·refine ifF (by rw[DS];exact fun h=>h c2) ⟨_,hS,_,rfl,y,rfl,_,rfl,?_⟩
     by_cases c3:0<=y/\y<=99
     ·refine ifF (by rw[DS];exact fun h=>h c3) ⟨_,hS,_,rfl,_,hS,_,rfl,_,rfl,_,rfl,?_⟩
      by_cases c4:x=y
      ·refine ifT c4 (k _ _ (A1.refl H) ?_)
       rw[show Ps.BM [1,g,x,y]=none by simp only[Ps.BM];rw[if_neg (fun h=>h.2.2.2 c4)]]
       rfl
      ·refine ifF c4 ⟨_,.inl ⟨hS,fun l hl2=>k _ _ (A1.new hl2) ?_⟩⟩
       rw[show Ps.BM [1,g,x,y]=some (.swap g.toNat x.toNat y.toNat) by simp only[Ps.BM];rw[if_pos ⟨c1,c2,c3,c4⟩]]
       refine ⟨l,rfl,?_⟩
       rw[E3 c1.1,E3 c2.1,E3 c3.1]
       exact SqT.of A4
     ·refine ifT (by rw[DS];exact c3) (k _ _ (A1.refl H) ?_)
      rw[show Ps.BM [1,g,x,y]=none by simp only[Ps.BM];rw[if_neg (fun h=>c3 h.2.2.1)]]
      rfl
    ·refine ifT (by rw[DS];exact c2) (k _ _ (A1.refl H) ?_)
     rw[show Ps.BM [1,g,x,y]=none by simp only[Ps.BM];rw[if_neg (fun h=>c2 h.2.1)]]
     rfl
   ·refine ifT (by rw[DS];exact c1) (k _ _ (A1.refl H) ?_)
    rw[show Ps.BM [1,g,x,y]=none by simp only[Ps.BM];rw[if_neg (fun h=>c1 h.1)]]
    rfl
  ·refine ifT (by omega) (k _ _ (A1.refl H) ?_)
   rw[U6 hl]
   rfl
abbrev Cp:Stmt:=top 17
theorem IB:AC ["numbers"] ["numbers"] (A7 Cp):=⟨rfl,rfl,rfl,by decide+kernel,rfl,by decide+kernel,by decide+kernel⟩
def EV (K:PySem.W.Frag):Sp:=fun vs H Q _=>∃(a:Addr) (ns:List Int),vs=[.ref a]/\SqL K H a (ns.map V.int)/\ns.length<=5000/\(ns[0]?=some 2\/ns[0]?=some 3)/\∀H' v,A1 H H'->Jx K H' v (Ps.DD ns)->Q v H'
theorem IC (T:Txt K mg) (D:AA K mg "read_added_or_removed" Cp ["numbers"]) (Am:OkF P w K mg base 1 "is_file_name" ["number"] CV):OkF P w K mg base 2 "read_added_or_removed" ["numbers"] (EV K):=by
 refine D.ok IB (fun vs H Q E h=>?_) (fun f cdv A outer s H vs Q E hr h=>?_)
 ·obtain ⟨a,ns,rfl,_⟩:=h
  rfl
 ·obtain ⟨a,ns,rfl,hS,hlen,h0,k⟩:=h
  refine ⟨_,(A2 (AH (PW.pt (Ce (AG (Lu (AN AJ (by rfl) T.len PySem.boot_len (A0 (pv 0) A3)) A9)) (Cs (Bd (Bv (AD Am (hr.mono (by decide)) (A0 (AF (r:=B6 K) Ak (pv 0) A9 (fun _ _=>rfl)) A3)))))))
   (A5 (A6 At))
   AB)
   (A5 (A6 (Cg E4 (by rfl) T.tuple PyProof.Rows.boot_tuple (A0 (pv 0) A3))))),?_⟩
  trivial
  refine ⟨_,.inl hS,?_⟩
  rw[List.length_map]
  by_cases hl:ns.length=2
  ·refine ifF (by simp only[hl];decide) ?_
   obtain ⟨z,g,rfl⟩:=NR hl
   refine ⟨_,hS,_,rfl,g,rfl,_,rfl,?_⟩
   by_cases c1:0<=g/\g<=9
   ·refine ifF (by rw[DS];exact fun h=>h c1) ⟨_,.inl ⟨hS,fun l hl2=>k _ _ (A1.new hl2) ?_⟩⟩
    simp only[Ps.DD]
    rw[if_pos c1]
    rcases h0 with h0|h0
    ·cases h0
     rw[if_pos rfl]
     refine ⟨l,rfl,?_⟩
     rw[E3 c1.1]
     exact SqT.of A4
    ·cases h0
     rw[if_neg (by decide)]
     refine ⟨l,rfl,?_⟩
     rw[E3 c1.1]
     exact SqT.of A4
   ·refine ifT (by rw[DS];exact c1) (k _ _ (A1.refl H) ?_)
    simp only[Ps.DD]
    rw[if_neg c1]
    rfl
  ·refine ifT (by omega) (k _ _ (A1.refl H) ?_)
   rw[VX hl]
   rfl
abbrev HI:Stmt:=top 18
theorem QF:AC ["numbers"] ["numbers"] (A7 HI):=⟨rfl,rfl,rfl,by decide+kernel,rfl,by decide+kernel,by decide+kernel⟩
def Kh (K:PySem.W.Frag):Sp:=fun vs H Q _=>∃(a:Addr) (ns:List Int),vs=[.ref a]/\SqL K H a (ns.map V.int)/\ns.length<=5000/\ns[0]?=some 4/\∀H' v,A1 H H'->Jx K H' v (Ps.Bz ns)->Q v H'
theorem QG (T:Txt K mg) (D:AA K mg "read_moved" HI ["numbers"]) (Am:OkF P w K mg base 1 "is_file_name" ["number"] CV):OkF P w K mg base 2 "read_moved" ["numbers"] (Kh K):=by
 refine D.ok QF (fun vs H Q E h=>?_) (fun f cdv A outer s H vs Q E hr h=>?_)
 ·obtain ⟨a,ns,rfl,_⟩:=h
  rfl
 ·obtain ⟨a,ns,rfl,hS,hlen,h0,k⟩:=h
  refine ⟨_,(A2 (AH (PW.pt (Ce (AG (Lu (AN AJ (by rfl) T.len PySem.boot_len (A0 (pv 0) A3)) A9)) (Ce (Bd (Bv (AD Am (hr.mono (by decide)) (A0 (AF (r:=B6 K) Ak (pv 0) A9 (fun _ _=>rfl)) A3)))) (Cs (Bd (Bv (AD Am (hr.mono (by decide)) (A0 (AF (r:=B6 K) Ak (pv 0) A9 (fun _ _=>rfl)) A3))))))))
   (A5 (A6 At))
   AB)
   (A2 (AH (AG (Ab (AF (r:=B6 K) Ak (pv 0) A9 (fun _ _=>rfl)) (AF (r:=B6 K) Ak (pv 0) A9 (fun _ _=>rfl))))
   (A5 (A6 At))
   AB)
   (A5 (A6 (Cg E4 (by rfl) T.tuple PyProof.Rows.boot_tuple (A0 (pv 0) A3)))))),?_⟩
  trivial
  refine ⟨_,.inl hS,?_⟩
  rw[List.length_map]
  by_cases hl:ns.length=3
  ·refine ifF (by simp only[hl];decide) ?_
   obtain ⟨z,g,x,rfl⟩:=Yp hl
   cases h0
   refine ⟨_,hS,_,rfl,g,rfl,_,rfl,?_⟩
   by_cases c1:0<=g/\g<=9
   ·refine ifF (by rw[DS];exact fun h=>h c1) ⟨_,hS,_,rfl,x,rfl,_,rfl,?_⟩
    by_cases c2:0<=x/\x<=9
    ·refine ifF (by rw[DS];exact fun h=>h c2) ⟨_,hS,_,rfl,_,hS,_,rfl,_,rfl,_,rfl,?_⟩
     by_cases c4:g=x
     ·refine ifT c4 (k _ _ (A1.refl H) ?_)
      rw[show Ps.Bz [4,g,x]=none by simp only[Ps.Bz];rw[if_neg (fun h=>h.2.2 c4)]]
      rfl
     ·refine ifF c4 ⟨_,.inl ⟨hS,fun l hl2=>k _ _ (A1.new hl2) ?_⟩⟩
      rw[show Ps.Bz [4,g,x]=some (.move g.toNat x.toNat) by simp only[Ps.Bz];rw[if_pos ⟨c1,c2,c4⟩]]
      refine ⟨l,rfl,?_⟩
      rw[E3 c1.1,E3 c2.1]
      exact SqT.of A4
    ·refine ifT (by rw[DS];exact c2) (k _ _ (A1.refl H) ?_)
     rw[show Ps.Bz [4,g,x]=none by simp only[Ps.Bz];rw[if_neg (fun h=>c2 h.2.1)]]
     rfl
   ·refine ifT (by rw[DS];exact c1) (k _ _ (A1.refl H) ?_)
    rw[show Ps.Bz [4,g,x]=none by simp only[Ps.Bz];rw[if_neg (fun h=>c1 h.1)]]
    rfl
  ·refine ifT (by omega) (k _ _ (A1.refl H) ?_)
   rw[US hl]
   rfl
abbrev ID:Stmt:=top 15
theorem IE:AC ["numbers","old","new"] ["numbers"] (A7 ID):=⟨rfl,rfl,rfl,by decide+kernel,rfl,by decide+kernel,by decide+kernel⟩
def LB (K:PySem.W.Frag):Sp:=fun vs H Q _=>∃(a:Addr) (ns:List Int),vs=[.ref a]/\SqL K H a (ns.map V.int)/\ns.length<=5000/\ns[0]?=some 0/\∀H' v,A1 H H'->Jx K H' v (Ps.F9 ns)->Q v H'
theorem R9 (T:Txt K mg) (D:AA K mg "read_hunk" ID ["numbers"]) (Am:OkF P w K mg base 1 "is_file_name" ["number"] CV) (CZ:OkF P w K mg base 2 "read_tokens" ["numbers","place","most"] (GI K)):OkF P w K mg base 3 "read_hunk" ["numbers"] (LB K):=by
 refine D.ok IE (fun vs H Q E h=>?_) (fun f cdv A outer s H vs Q E hr h=>?_)
 ·obtain ⟨a,ns,rfl,_⟩:=h
  rfl
 ·obtain ⟨a,ns,rfl,hS,hlen,h0,k⟩:=h
  refine ⟨_,(A2 (AH (PW.pt (Ce (BZ Qs (AN AJ (by rfl) T.len PySem.boot_len (A0 (pv 0) A3)) A9 (DI _)) (Ce (Bd (Bv (AD Am (hr.mono (by decide)) (A0 (AF (r:=B6 K) Ak (pv 0) A9 (fun _ _=>rfl)) A3)))) (Cs (Bd (Ej CN CN A9 (AF (r:=B6 K) Ak (pv 0) A9 (fun _ _=>rfl)) (AI T.MOST_PLACE)))))))
   (A5 (A6 At))
   AB)
   (A2 (AE (i:=1) IE.nd rfl (by nofun) (AD CZ (hr.mono (by decide)) (A0 (pv 0) (A0 A9 (A0 (AI T.MOST_HUNK_TOKENS) A3)))))
   (A2 (AH (AG (C5 (pv 1)))
   (A5 (A6 At))
   AB)
   (A2 (AE (i:=2) IE.nd rfl (by nofun) (AD CZ (hr.mono (by decide)) (A0 (pv 0) (A0 (As Bk A9 (AN AJ (by rfl) T.len PySem.boot_len (A0 (pv 1) A3))) (A0 (AI T.MOST_HUNK_TOKENS) A3)))))
   (A2 (AH (AG (C5 (pv 2)))
   (A5 (A6 At))
   AB)
   (A2 (AH (PW.pt (Ce (AG (Lu (AN AJ (by rfl) T.len PySem.boot_len (A0 (pv 0) A3)) (As Bk (As Bk A9 (AN AJ (by rfl) T.len PySem.boot_len (A0 (pv 1) A3))) (AN AJ (by rfl) T.len PySem.boot_len (A0 (pv 2) A3))))) (Cs (AG (Ab (As Bk (AN AJ (by rfl) T.len PySem.boot_len (A0 (pv 1) A3)) (AN AJ (by rfl) T.len PySem.boot_len (A0 (pv 2) A3))) A9)))))
   (A5 (A6 At))
   AB)
   (A5 (A6 (BL (A0 (AI T.HUNK) (A0 (AF (r:=B6 K) Ak (pv 0) A9 (fun _ _=>rfl)) (A0 (AF (r:=B6 K) Ak (pv 0) A9 (fun _ _=>rfl)) (A0 (pv 1) (A0 (pv 2) A3)))))))))))))),?_⟩
  trivial
  refine ⟨_,.inl hS,?_⟩
  rw[List.length_map]
  match ns,h0 with
  |[_],_=>exact ifT (by simp) (k _ _ (A1.refl H) rfl)
  |[_,_],_=>exact ifT (by simp) (k _ _ (A1.refl H) rfl)
  |z::g::x::r,h0=>
   cases h0
   refine ifF (by simp;omega) ⟨_,hS,_,CA (j:=1) rfl,g,rfl,_,rfl,?_⟩
   have hd0:Ps.F9 (0::g::x::r)=if (0<=g/\g<=9)/\(0<=x/\x<=1000) then (match VapatBase.readTokens 8 r with
  |none=>none
  |some (o,r3)=>match VapatBase.readTokens 8 r3 with
   |none=>none
   |some (n,r4)=>if r4=[]/\¬(o.length+n.length=0) then some (.hunk g.toNat x.toNat o n) else none) else none:=rfl
   by_cases c1:0<=g/\g<=9
   ·refine ifF (by rw[DS];exact fun h=>h c1) ⟨_,hS,_,CA (j:=2) rfl,x,rfl,?_⟩
    by_cases c2:0<=x
    ·refine ifT c2 ⟨x,rfl,?_⟩
     by_cases c3:x<=1000
     ·refine ifF (fun h=>h c3) ?_
      rw[if_pos ⟨c1,c2,c3⟩]at hd0
      refine ⟨a,_,3,8,rfl,hS,hlen,fun H1 e1 hn=>ifT rfl (k _ _ e1 ?_),fun H1 v l r3 e1 hs hv=>?_⟩
      ·rw[hd0,show VapatBase.readTokens 8 r=none from hn]
       rfl
      ·obtain ⟨po,rfl,hpo⟩:=hv
       have hs':VapatBase.readTokens 8 r=some (l,r3):=hs
       obtain ⟨k1,k2,k3,k4⟩:=Ps.CC hs'
       rw[hs']at hd0
       refine ifF (fun z=>nomatch z) ⟨po,rfl,_,.inr hpo,?_⟩
       have hdr:(0::g::x::r).drop (4+l.length)=r3:=by
        rw[k3,show 4+l.length=(1+l.length)+3 by omega]
        rfl
       refine ⟨a,_,4+l.length,8,by simp[iN],e1.seq hS,hlen,fun H2 e2 hn=>ifT rfl (k _ _ (e1.trans e2) ?_),fun H2 v2 n r4 e2 hs2 hv2=>?_⟩
       ·rw[hdr]at hn
        rw[hd0]
        simp only[hn]
        rfl
       ·obtain ⟨pn,rfl,hpn⟩:=hv2
        rw[hdr]at hs2
        obtain ⟨m1,m2,m3,m4⟩:=Ps.CC hs2
        simp only[hs2]at hd0
        refine ifF (fun z=>nomatch z) ⟨_,.inl ((e1.trans e2).seq hS),po,rfl,_,.inr (A1.tup e2 hpo),pn,rfl,_,.inr hpn,?_⟩
        simp only[List.length_map]
        have hr4:r4=[]↔(0::g::x::r).length=5+l.length+n.length:=by
         have lr3:r3.length=r.length - (1+l.length):=by rw[k3,List.length_drop]
         have lr4:r4.length=r3.length - (1+n.length):=by rw[m3,List.length_drop]
         rw[<-List.length_eq_zero_iff]
         simp only[List.length_cons]
         omega
        by_cases c4:r4=[]
        ·refine ifF (fun h=>h (by have:=hr4.1 c4;omega)) ⟨po,rfl,_,.inr (A1.tup e2 hpo),pn,rfl,_,.inr hpn,?_⟩
         simp only[List.length_map]
         by_cases c5:l.length+n.length=0
         ·refine ifT (by omega) (k _ _ (e1.trans e2) ?_)
          rw[hd0,if_neg (fun h=>h.2 c5)]
          rfl
         ·refine ifF (by omega) ⟨_,(e1.trans e2).seq hS,_,CA (j:=1) rfl,_,(e1.trans e2).seq hS,_,CA (j:=2) rfl,AX (by omega),fun q hq=>k _ _ ((e1.trans e2).trans (A1.new hq)) ?_⟩
          rw[hd0,if_pos ⟨c4,c5⟩]
          refine ⟨q,_,_,rfl,SqT.of ?_,⟨po,rfl,A1.tup (e2.trans (A1.new hq)) hpo⟩,⟨pn,rfl,A1.tup (A1.new hq) hpn⟩⟩
          rw[E3 c1.1,E3 c2]
          exact A4
        ·refine ifT (fun h=>c4 (hr4.2 (by omega))) (k _ _ (e1.trans e2) ?_)
         rw[hd0,if_neg (fun h=>c4 h.1)]
         rfl
     ·refine ifT c3 (k _ _ (A1.refl H) ?_)
      rw[hd0,if_neg (fun h=>c3 h.2.2)]
      rfl
    ·refine ifF c2 (k _ _ (A1.refl H) ?_)
     rw[hd0,if_neg (fun h=>c2 h.2.1)]
     rfl
   ·refine ifT (by rw[DS];exact c1) (k _ _ (A1.refl H) ?_)
    rw[hd0,if_neg (fun h=>c1 h.1)]
    rfl
end
end
section
theorem Ry {p:VapatBase.Step} (h:BX p):(VapatBase.flatStep p).length<=30:=by
 cases p<;>simp[VapatBase.flatStep,VapatBase.listed,VapatBase.ints]
 have:=h.1
 have:=h.2
 omega
theorem Im:∀{r:Vapatc.Row},Good r->(r.flatMap (fun p=>((p.name:Nat):Int)::VapatBase.flatStep p.step)).length<=31*r.length
 |[],_=>by simp
 |p::r,h=>by
  obtain ⟨h1,h2⟩:=Good.cons.1 h
  have:=Im h2
  have:=Ry h1.2
  simp only[List.flatMap_cons,List.length_append,List.length_cons]
  omega
theorem VW {x y z:V} {xs:List V}:BG (x::y::z::xs) none (some 3)=[x,y,z]:=by
 unfold BG
 have:HT.sIx (x::y::z::xs).length (x::y::z::xs).length (some 3)=3:=by
  have:=HT.sIx_nat (x::y::z::xs).length (x::y::z::xs).length 3
  rw[show (some (3:Int))=some ((3:Nat):Int) from rfl,this]
  simp
 rw[this,HT.sIx_none]
 simp
section
variable {P:Program} {w:World} {K:PySem.W.Frag} {mg:Str->Option Value} {base:Heap}
abbrev IF:Stmt:=top 19
theorem LC:AC ["numbers","kind"] ["numbers"] (A7 IF):=⟨rfl,rfl,rfl,by decide+kernel,rfl,by decide+kernel,by decide+kernel⟩
def LD (K:PySem.W.Frag):Sp:=fun vs H Q _=>∃(a:Addr) (ns:List Int),vs=[.ref a]/\SqL K H a (ns.map V.int)/\ns.length<=5000/\∀H' v,A1 H H'->Jx K H' v (VapatBase.whole VapatBase.readStep ns)->Q v H'
theorem RA (T:Txt K mg) (D:AA K mg "read_step" IF ["numbers"]) (JK:OkF P w K mg base 3 "read_hunk" ["numbers"] (LB K)) (JL:OkF P w K mg base 2 "read_swap" ["numbers"] (LA K)) (D5:OkF P w K mg base 2 "read_added_or_removed" ["numbers"] (EV K)) (IG:OkF P w K mg base 2 "read_moved" ["numbers"] (Kh K)):
  OkF P w K mg base 4 "read_step" ["numbers"] (LD K):=by
 refine D.ok LC (fun vs H Q E h=>?_) (fun f cdv A outer s H vs Q E hr h=>?_)
 ·obtain ⟨a,ns,rfl,_⟩:=h
  rfl
 ·obtain ⟨a,ns,rfl,hS,hlen,k⟩:=h
  refine ⟨_,(A2 (AH (Bd (S4 (pv 0) (fun _=>rfl)))
   (A5 (A6 At))
   AB)
   (A2 (AE (i:=1) LC.nd rfl (by nofun) (AF (r:=B6 K) Ak (pv 0) A9 (fun _ _=>rfl)))
   (A2 (AH (AG (Ab (pv 1) (AI T.HUNK)))
   (A5 (A6 (AD JK (hr.mono (by decide)) (A0 (pv 0) A3))))
   AB)
   (A2 (AH (AG (Ab (pv 1) (AI T.SWAP)))
   (A5 (A6 (AD JL (hr.mono (by decide)) (A0 (pv 0) A3))))
   AB)
   (A2 (AH (PW.pt (Ce (AG (Ab (pv 1) (AI T.ADDED))) (Cs (AG (Ab (pv 1) (AI T.REMOVED))))))
   (A5 (A6 (AD D5 (hr.mono (by decide)) (A0 (pv 0) A3))))
   AB)
   (A2 (AH (AG (Ab (pv 1) (AI T.MOVED)))
   (A5 (A6 (AD IG (hr.mono (by decide)) (A0 (pv 0) A3))))
   AB)
   (A5 (A6 At)))))))),?_⟩
  trivial
  refine ⟨_,.inl ⟨_,hS,rfl⟩,?_⟩
  cases ns with
  |nil=>exact ifT rfl (k _ _ (A1.refl H) rfl)
  |cons z r=>
   refine ifF (by simp) ⟨_,hS,_,CA (j:=0) rfl,z,rfl,?_⟩
   by_cases c0:z=0
   ·subst c0
    exact ifT rfl ⟨a,_,rfl,hS,hlen,rfl,fun H' v e h=>k _ _ e (by rw[Ps.OQ];exact h)⟩
   ·refine ifF c0 ⟨z,rfl,?_⟩
    by_cases c1:z=1
    ·subst c1
     exact ifT rfl ⟨a,_,rfl,hS,hlen,rfl,fun H' v e h=>k _ _ e (by rw[Ps.Og];exact h)⟩
    ·refine ifF c1 ⟨z,rfl,?_⟩
     by_cases c2:z=2
     ·subst c2
      exact ifT rfl ⟨a,_,rfl,hS,hlen,.inl rfl,fun H' v e h=>k _ _ e (by rw[Ps.Q2];exact h)⟩
     ·refine ifF c2 ⟨z,rfl,?_⟩
      by_cases c3:z=3
      ·subst c3
       exact ifT rfl ⟨a,_,rfl,hS,hlen,.inr rfl,fun H' v e h=>k _ _ e (by rw[Ps.Q6];exact h)⟩
      ·refine ifF c3 ⟨z,rfl,?_⟩
       by_cases c4:z=4
       ·subst c4
        exact ifT rfl ⟨a,_,rfl,hS,hlen,rfl,fun H' v e h=>k _ _ e (by rw[Ps.OY];exact h)⟩
       ·refine ifF c4 (k _ _ (A1.refl H) ?_)
        rw[Ps.Mh r ⟨c0,c1,c2,c3,c4⟩]
        rfl
abbrev HJ:Stmt:=top 20
theorem QH:AC ["step"] ["step"] (A7 HJ):=⟨rfl,rfl,rfl,by decide+kernel,rfl,by decide+kernel,by decide+kernel⟩
def Ki (K:PySem.W.Frag):Sp:=fun vs H Q _=>∃(v:V) (p:VapatBase.Step),vs=[v]/\An K H v p/\BX p/\∀H' a,A1 H H'->H' a=some (.lst ((VapatBase.flatStep p).map V.int))->Q (.ref a) H'
theorem QI (T:Txt K mg) (D:AA K mg "write_step" HJ ["step"]) (CG:OkF P w K mg base 1 "write_tokens" ["tokens"] (Fh K)):OkF P w K mg base 2 "write_step" ["step"] (Ki K):=by
 refine D.ok QH (fun vs H Q E h=>?_) (fun f cdv A outer s H vs Q E hr h=>?_)
 ·obtain ⟨v,p,rfl,_⟩:=h
  rfl
 ·obtain ⟨v,p,rfl,hv,sp,k⟩:=h
  refine ⟨_,(A2 (AH (AG (Ab (AF (r:=AU K) AL (pv 0) A9 (fun _ _=>rfl)) (AI T.HUNK)))
   (A5 (A6 (As FA (As FA (Cg G4 (by rfl) T.list PyProof.Rows.boot_list (A0 (Bh (r:=Ig K) Gi (pv 0) D9 (Ba A9)) A3)) (AD CG (hr.mono (by decide)) (A0 (AF (r:=AU K) AL (pv 0) A9 (fun _ _=>rfl)) A3))) (AD CG (hr.mono (by decide)) (A0 (AF (r:=AU K) AL (pv 0) A9 (fun _ _=>rfl)) A3)))))
   AB)
   (A5 (A6 (Cg G4 (by rfl) T.list PyProof.Rows.boot_list (A0 (pv 0) A3))))),?_⟩
  cases p with
  |hunk fl pl o n=>
   obtain ⟨a,vo,vn,rfl,hS,ho,hn⟩:=hv
   trivial
   refine ⟨_,hS,_,rfl,_,rfl,ifT rfl ⟨_,hS,fun q1 H1 e1 h1=>⟨_,.inr h1,fun l1 hl1=>?_⟩⟩⟩
   rw[VW]
   have e2:=e1.trans (A1.new (o:=.lst [V.int 0,iN fl,iN pl]) hl1)
   refine ⟨_,A1.tup e2 hS,_,rfl,vo,o,rfl,ho.same e2,by have:=sp.1;omega,fun H3 b3 e3 h3=>?_⟩
   refine ⟨b3,rfl,_,e3 _ _ A4,_,h3,AX (by simp[VapatBase.listed,VapatBase.ints];have:=sp.1;omega),fun l2 hl2=>?_⟩
   have e4:=(e2.trans e3).trans (A1.new (o:=.lst ([V.int 0,iN fl,iN pl]++(VapatBase.listed o).map V.int)) hl2)
   refine ⟨_,A1.tup e4 hS,_,rfl,vn,n,rfl,hn.same e4,by have:=sp.2;omega,fun H5 b5 e5 h5=>?_⟩
   refine ⟨b5,rfl,_,e5 _ _ A4,_,h5,AX (by simp[VapatBase.listed,VapatBase.ints];have:=sp.1;have:=sp.2;omega),fun l3 hl3=>?_⟩
   refine k _ l3 ((e4.trans e5).trans (A1.new hl3)) ?_
   rw[A4]
   simp[VapatBase.flatStep,VapatBase.int,iN]
  |swap fl x y=>
   obtain ⟨a,rfl,hS⟩:=hv
   trivial
   exact ⟨_,hS,_,rfl,_,rfl,ifF (by decide) ⟨_,.inr hS,fun l hl=>k _ l (A1.new hl) A4⟩⟩
  |add fl=>
   obtain ⟨a,rfl,hS⟩:=hv
   trivial
   exact ⟨_,hS,_,rfl,_,rfl,ifF (by decide) ⟨_,.inr hS,fun l hl=>k _ l (A1.new hl) A4⟩⟩
  |remove fl=>
   obtain ⟨a,rfl,hS⟩:=hv
   trivial
   exact ⟨_,hS,_,rfl,_,rfl,ifF (by decide) ⟨_,.inr hS,fun l hl=>k _ l (A1.new hl) A4⟩⟩
  |move fl gl=>
   obtain ⟨a,rfl,hS⟩:=hv
   trivial
   exact ⟨_,hS,_,rfl,_,rfl,ifF (by decide) ⟨_,.inr hS,fun l hl=>k _ l (A1.new hl) A4⟩⟩
abbrev IH:Stmt:=top 37
theorem Fp:AC ["row","numbers","name","step"] ["row"] (A7 IH):=⟨rfl,rfl,rfl,by decide+kernel,rfl,by decide+kernel,by decide+kernel⟩
def II (K:PySem.W.Frag):Sp:=fun vs H Q _=>∃(v:V) (r:Vapatc.Row),vs=[v]/\BA K H v r/\Good r/\r.length<=400/\∀H' a,A1 H H'->H a=none->H' a=some (.lst ((Vapatc.rowTold r).map V.int))->Q (.ref a) H'
theorem RB (T:Txt K mg) (D:AA K mg "write_row" IH ["row"]) (IJ:OkF P w K mg base 2 "write_step" ["step"] (Ki K)):OkF P w K mg base 3 "write_row" ["row"] (II K):=by
 refine D.ok Fp (fun vs H Q E h=>?_) (fun f cdv A outer s H vs Q E hr h=>?_)
 ·obtain ⟨v,r,rfl,_⟩:=h
  rfl
 ·obtain ⟨v,r,rfl,⟨a,xs,rfl,hL,hp⟩,gr,hlen,k⟩:=h
  have lx:xs.length=r.length:=Paired.length hp
  refine ⟨_,(A2 (AE (i:=1) Fp.nd rfl (by nofun) (Af (A0 (AN AJ (by rfl) T.len PySem.boot_len (A0 (pv 0) A3)) A3)))
   (A2 (BH PassesOwn.never rfl (B4 (pv 0)) (Ga (K:=K) (n:=2) rfl rfl (C2 (AZ (i:=2) Fp.nd rfl (by nofun)) (C2 (AZ (i:=3) Fp.nd rfl (by nofun)) Gc)))
   (A2 (BE (Es PySem.F.plainAttrs_list PySem.F.slot_list_append PySem.F.type_list_append Dk (pv 1) (A0 (pv 2) A3)))
    (A5 (BE (Es PySem.F.plainAttrs_list PySem.F.slot_list_extend PySem.F.type_list_extend Lg (pv 1) (A0 (AD IJ (hr.mono (by decide)) (A0 (pv 3) A3)) A3))))))
   (A5 (A6 (pv 1))))),?_⟩
  trivial
  refine ⟨_,.inl (SqL.of hL),AX (by omega),fun c hc=>⟨⟨_,(A1.new hc).seq (SqL.of hL)⟩,?_⟩⟩
  refine FX (H0:=H) (Ay (SqL.of hL)) (fun i σ H'=>A1 H H'/\∃(o1 o2:Option V),σ=[some (.ref a),some (.ref c),o1,o2]/\H' c=some (.lst ((((r.length:Nat):Int)::(r.take i).flatMap (fun p=>((p.name:Nat):Int)::VapatBase.flatStep p.step)).map V.int)))
   ⟨A1.new hc,none,none,rfl,by rw[A4,lx];rfl⟩ (fun i σ H' h=>h.1) ?_ ?_
  ·rintro i x σ H' hx ⟨e,o1,o2,rfl,hy⟩
   obtain ⟨q,hq,hxq⟩:=By hp hx
   obtain ⟨b,u,rfl,hS,hu⟩:=hxq.same e
   have gq:=gr q (List.mem_of_getElem? hq)
   have gt:Good (r.take i):=fun z hz=>gr z (List.mem_of_mem_take hz)
   have hl1:=Im gt
   have hl2:(r.take i).length<=400:=by rw[List.length_take];omega
   trivial
   have t1:∀o,AQ K H' (upd H' c (.lst o)):=fun o=>AQ.lst hy
   refine ⟨_,hS,rfl,_,_,rfl,_,_,rfl,rfl,.inl ⟨rfl,_,SqL.of hy⟩,_,hy,szl (by rw[List.length_map,List.length_cons];omega),.inl ⟨rfl,_,SqL.of A4⟩,?_⟩
   refine ⟨u,q.step,rfl,hu.t (t1 _),gq.2,fun H1 d e1 h1=>⟨d,rfl,_,e1 _ _ A4,_,h1,AX ?_,?_,?_⟩⟩
   ·have:=Ry gq.2
    simp only[List.length_map,List.length_cons,List.length_append,List.length_nil]
    omega
   ·intro z o hz
    rw[A8 (AV hz hc)]
    refine e1 _ _ ?_
    rw[A8 (AV hz hc)]
    exact e _ _ hz
   ·rw[A4,Ai hq]
    simp[iN]
  ·rintro σ H' ⟨e,o1,o2,rfl,hy⟩
   rw[lx,List.take_length]at hy
   trivial
   exact k _ c e hc hy
end
end
end Pz
section
namespace Ps
open VapatBase
open Vapatc (Patch Row)
open Vapate (Known Names find blockOf endsOf needsOf)
open Pz (Good CM BX)
def KN (ks:List Known) (n:Nat):Prop:=(find ks n).isSome=true
instance (ks:List Known) (n:Nat):Decidable (KN ks n):=inferInstanceAs (Decidable (_=true))
theorem Q8 (ks:List Known) (k:Known) (n:Nat):find (ks++[k]) n=(find ks n).or (if k.name=n then some k else none):=by
 unfold find
 rw[List.find?_append]
 congr 1
 by_cases h:k.name=n
 ·simp[h]
 ·simp[h]
theorem OL {ks:List Known} {n:Nat}:KN ks n↔n∈ks.map (fun k=>k.name):=by
 unfold KN find
 rw[List.find?_isSome]
 simp only[List.mem_map]
 constructor
 ·rintro ⟨k,h1,h2⟩;exact ⟨k,h1,by simpa using h2⟩
 ·rintro ⟨k,h1,h2⟩;exact ⟨k,h1,by simpa using h2⟩
structure CD (t:Tree) (ks:List Known):Prop where
 W:World (KN ks) (blockOf ks)
 good:∀n,KN ks n->Good (blockOf ks n)
 fit:∀n,KN ks n->∃u,app t (blockOf ks n)=some u
 nd:(ks.map fun k=>k.name).Nodup
 len:ks.length<=12
theorem CD.nil (t:Tree):CD t [] where
 W:=⟨fun n h=>by simp[KN,find]at h,fun n h=>by simp[KN,find]at h,fun n h=>by simp[KN,find]at h,fun n h=>by simp[KN,find]at h⟩
 good:=fun n h=>by simp[KN,find]at h
 fit:=fun n h=>by simp[KN,find]at h
 nd:=by simp
 len:=by simp
theorem K2:∀{l m:List Nat},l.Nodup->(∀n∈l,n∈m)->l.length<=m.length
 |[],_,_,_=>Nat.zero_le _
 |a::l,m,h,hs=>by
  rw[List.nodup_cons]at h
  have h1:=hs a (List.mem_cons_self ..)
  have h2:=K2 (l:=l) (m:=m.erase a) h.2 fun n hn=>by
   rw[List.mem_erase_of_ne]
   ·exact hs n (List.mem_cons_of_mem _ hn)
   ·rintro rfl
    exact h.1 hn
  rw[List.length_erase_of_mem h1]at h2
  have:=List.length_pos_of_mem h1
  rw[List.length_cons]
  omega
theorem len_sub {ks:List Known} {l:List Nat} (h:l.Nodup) (hk:∀n∈l,KN ks n):l.length<=ks.length:=by
 have h1:∀n∈l,n∈ks.map (fun k=>k.name):=fun n hn=>OL.1 (hk n hn)
 have:=K2 h h1
 simpa using this
theorem CD.row_len {t:Tree} {ks:List Known} (I:CD t ks) {X:Row} (h:Con (KN ks) (blockOf ks) X):X.length<=12:=by
 have:=len_sub h.1 fun n hn=>(h.2 n hn).1
 have:=I.len
 simp[nms]at*
 omega
theorem CD.ok {t:Tree} {ks:List Known} (I:CD t ks) {n:Nat} (h:KN ks n):AOk (blockOf ks n):=(I.good n h).ok
theorem UY {a:Row} (h:Good a):Good (turnR a):=by
 intro p hp
 simp only[turnR,List.mem_reverse,List.mem_map]at hp
 obtain ⟨q,hq,rfl⟩:=hp
 have:=h q hq
 refine ⟨?_,?_⟩
 ·exact (AOk.turnR (a:=[q]) (by intro x hx;simp at hx;subst hx;exact this.1)) (tP q) (by simp[turnR])
 ·have h2:=this.2
  unfold tP
  cases hs:q.step<;>simp only[hs]at h2 ⊢<;>simp only[turned,BX]at h2 ⊢
  exact ⟨h2.2,h2.1⟩
section
variable {K:Nat->Prop} {B:Nat->Row}
theorem XX {X Y J:Row} (nX:(nms X).Nodup) (nY:(nms Y).Nodup) (gX:Good X) (gY:Good Y) (h:jn X Y=some J):Good J:=by
 simp only[jn,Option.bind_eq_some_iff,Option.map_eq_some_iff]at h
 obtain ⟨⟨x,rx⟩,h1,⟨y,ry⟩,h2,⟨m,l⟩,h3,h4⟩:=h
 obtain ⟨q1,n1⟩:=C3 gX.ok nX h1
 obtain ⟨q2,n2⟩:=C3 gY.ok nY h2
 have g1:=Good.append.1 (Good.Q q1 gX)
 have g2:=Good.append.1 (Good.Q q2 gY)
 have g3:=Good.append.1 (Good.Q (Cu h3).1 (Good.append.2 ⟨UY g1.2,g2.2⟩))
 simp only at h4
 subst h4
 exact Good.append.2 ⟨g1.1,Good.append.2 ⟨g1.2,g3.1⟩⟩
end
theorem CD.conflict {t:Tree} {ks:List Known} (I:CD t ks) {n m:Nat} (hn:KN ks n) (hm:KN ks m):Vapate.conflict ks n m=(jn (blockOf ks n) (blockOf ks m)).isNone:=by
 unfold Vapate.conflict
 rw[Pt I.W (Con.self I.W hn) (Con.self I.W hm) (I.ok hn) (I.ok hm)]
theorem CD.conflict_ub {t:Tree} {ks:List Known} (I:CD t ks) {n m:Nat} (hn:KN ks n) (hm:KN ks m):Vapate.conflict ks n m=false↔Ub (blockOf ks n) (blockOf ks m):=by
 rw[I.conflict hn hm]
 constructor
 ·intro h
  cases e:jn (blockOf ks n) (blockOf ks m) with
  |none=>rw[e]at h;cases h
  |some J=>exact (NL I.W (Con.self I.W hn) (Con.self I.W hm) (I.ok hn) (I.ok hm) e).2.2.2.1
 ·intro h
  obtain ⟨J,e⟩:=PV I.W (Con.self I.W hn) (Con.self I.W hm) (I.ok hn) (I.ok hm) h
  rw[e]
  rfl
def DE (ks:List Known) (l:Names):Row:=l.foldl (fun r n=>(Vapate.joined r (blockOf ks n)).getD r) []
theorem UQ (ks:List Known) (l:Names) (n:Nat):DE ks (l++[n])=(Vapate.joined (DE ks l) (blockOf ks n)).getD (DE ks l):=by
 unfold DE
 rw[List.foldl_append]
 rfl
structure Hu (t:Tree) (ks:List Known) (l:Names) (r:Row):Prop where
 con:Con (KN ks) (blockOf ks) r
 good:Good r
 names:∀x,x∈nms r↔∃n∈l,x∈nms (blockOf ks n)
 fit:∃u,app t r=some u
theorem SO {t:Tree} (ht:Srt t) {ks:List Known} (I:CD t ks) {l:Names} {n:Nat} (hk:∀m∈l,KN ks m) (hn:KN ks n) (hc:∀m∈l,Ub (blockOf ks m) (blockOf ks n)) (R:Hu t ks l (DE ks l)):
  jn (DE ks l) (blockOf ks n)=some (DE ks (l++[n]))/\Hu t ks (l++[n]) (DE ks (l++[n])):=by
 have cn:=Con.self I.W hn
 have hub:Ub (DE ks l) (blockOf ks n):=by
  refine Con.ub_of I.W R.con cn fun x hx u hu=>?_
  obtain ⟨m,hm,hxm⟩:=(R.names x).1 hx
  have cm:=Con.self I.W (hk m hm)
  obtain ⟨J,e⟩:=PV I.W cm cn (I.ok (hk m hm)) (I.ok hn) (hc m hm)
  obtain ⟨cJ,-,nJ,-⟩:=NL I.W cm cn (I.ok (hk m hm)) (I.ok hn) e
  exact Con.ub_in I.W cJ ((nJ x).2 (Or.inl hxm)) ((nJ u).2 (Or.inr hu))
 obtain ⟨J,e⟩:=PV I.W R.con cn R.good.ok (I.ok hn) hub
 have ej:DE ks (l++[n])=J:=by rw[UQ,Pt I.W R.con cn R.good.ok (I.ok hn),e];rfl
 rw[ej]
 obtain ⟨cJ,-,nJ,-⟩:=NL I.W R.con cn R.good.ok (I.ok hn) e
 refine ⟨e,cJ,XX R.con.1 cn.1 R.good (I.good n hn) e,fun x=>?_,Y2 ht I.W R.con cn R.good.ok (I.ok hn) e R.fit (I.fit n hn)⟩
 rw[nJ x,R.names x]
 constructor
 ·rintro (⟨m,hm,h⟩|h)
  ·exact ⟨m,List.mem_append_left _ hm,h⟩
  ·exact ⟨n,by simp,h⟩
 ·rintro ⟨m,hm,h⟩
  rcases List.mem_append.1 hm with hm|hm
  ·exact Or.inl ⟨m,hm,h⟩
  ·simp at hm;subst hm;exact Or.inr h
theorem TJ {t:Tree} (ht:Srt t) {ks:List Known} (I:CD t ks):∀(k:Nat) {l:Names},l.length=k->(∀m∈l,KN ks m)->(∀n∈l,∀m∈l,Ub (blockOf ks m) (blockOf ks n))->Hu t ks l (DE ks l):=by
 intro k
 induction k with
 |zero=>
  intro l hl _ _
  have:l=[]:=List.eq_nil_of_length_eq_zero hl
  subst this
  exact ⟨Con.nil,fun p hp=>(by cases hp),fun x=>by simp[DE,nms],t,rfl⟩
 |succ k ih=>
  intro l hl h1 h2
  rcases List.eq_nil_or_concat l with rfl|⟨l',n,rfl⟩
  ·simp at hl
  ·rw[List.concat_eq_append]at*
   have hl':l'.length=k:=by simpa using hl
   have R:=ih hl' (fun m hm=>h1 m (List.mem_append_left _ hm)) (fun n hn m hm=>h2 n (List.mem_append_left _ hn) m (List.mem_append_left _ hm))
   exact (SO ht I (fun m hm=>h1 m (List.mem_append_left _ hm)) (h1 n (by simp)) (fun m hm=>h2 n (by simp) m (List.mem_append_left _ hm)) R).2
theorem Hu.form {t:Tree} (ht:Srt t) {ks:List Known} {l:Names} {r:Row} (R:Hu t ks l r):Hu t ks l (Vapatc.form r):=by
 have q:=Xu _ rfl R.good.ok R.con.1
 obtain ⟨u,hu⟩:=R.fit
 exact ⟨R.con.Q q,Good.Q q R.good,fun x=>by rw[<-q.mem];exact R.names x,u,OV q ht hu⟩
theorem Eg {ks:List Known} {s:Names} {n:Nat} (h:n∈Vapate.live ks s):n∈s:=(List.mem_filter.1 h).1
theorem Br {ks:List Known} {s:Names} {n:Nat} (h:n∈Vapate.acting ks s):n∈Vapate.live ks s:=(List.mem_filter.1 h).1
theorem Qh {ks:List Known} {s:Names} {n m:Nat}:(n,m)∈Vapate.conflicts ks s↔n∈Vapate.live ks s/\m∈Vapate.live ks s/\n<m/\Vapate.conflict ks n m=true:=by
 unfold Vapate.conflicts
 simp only[List.mem_flatMap,List.mem_map,List.mem_filter,decide_eq_true_eq,Prod.mk.injEq]
 constructor
 ·rintro ⟨a,ha,b,⟨⟨hb,hlt⟩,hc⟩,rfl,rfl⟩
  exact ⟨ha,hb,hlt,hc⟩
 ·rintro ⟨h1,h2,h3,h4⟩
  exact ⟨n,h1,m,⟨⟨h2,h3⟩,h4⟩,rfl,rfl⟩
theorem Q7 {t:Tree} {ks:List Known} (I:CD t ks) {s:Names} (hs:∀n∈s,KN ks n) {n m:Nat} (hn:n∈Vapate.acting ks s) (hm:m∈Vapate.acting ks s):Ub (blockOf ks m) (blockOf ks n):=by
 have kn:=hs n (Eg (Br hn))
 have km:=hs m (Eg (Br hm))
 have key:∀{a b:Nat},a∈Vapate.acting ks s->b∈Vapate.acting ks s->a<b->Ub (blockOf ks a) (blockOf ks b):=by
  intro a b ha hb hlt
  have ka:=hs a (Eg (Br ha))
  have kb:=hs b (Eg (Br hb))
  refine (I.conflict_ub ka kb).1 ?_
  cases hc:Vapate.conflict ks a b with
  |false=>rfl
  |true=>
   exfalso
   have h1:=Qh.2 ⟨Br ha,Br hb,hlt,hc⟩
   have h2:=(List.mem_filter.1 ha).2
   simp only[Bool.not_eq_true',List.any_eq_false]at h2
   exact h2 (a,b) h1 (by simp)
 rcases Nat.lt_trichotomy n m with h|h|h
 ·exact (key hn hm h).symm
 ·subst h
  exact Con.ub_in I.W (Con.self I.W kn) (I.W.self_mem kn) (I.W.self_mem kn)
 ·exact key hm hn h
theorem UL {t:Tree} (ht:Srt t) {ks:List Known} (I:CD t ks) {s:Names} (hs:∀n∈s,KN ks n):Hu t ks (Vapate.acting ks s) (DE ks (Vapate.acting ks s)):=
 TJ ht I _ rfl (fun m hm=>hs m (Eg (Br hm))) (fun n hn m hm=>Q7 I hs hn hm)
theorem W9 (ks:List Known) (s:Names):Vapate.rowOf ks s=Vapatc.form (DE ks (Vapate.acting ks s)):=rfl
theorem DO {t:Tree} (ht:Srt t) {ks:List Known} (I:CD t ks) {s:Names} (hs:∀n∈s,KN ks n):Hu t ks (Vapate.acting ks s) (Vapate.rowOf ks s):=(UL ht I hs).form ht
theorem SQ {t:Tree} (ht:Srt t) {ks:List Known} (I:CD t ks) {s:Names} (hs:∀n∈s,KN ks n):∃u,Vapate.outcome t ks s=some u/\app t (Vapate.rowOf ks s)=some u:=by
 obtain ⟨u,h⟩:=(DO ht I hs).fit
 exact ⟨u,h,h⟩
end Ps
end
section
namespace Ps
open VapatBase
open Vapatc (Patch Row)
open Vapate (Known Names find blockOf endsOf needsOf)
open Pz (Good CM BX)
theorem Bs {ks:List Known} {k:Known} {n:Nat} (h:KN ks n):blockOf (ks++[k]) n=blockOf ks n:=by
 unfold blockOf
 rw[Q8]
 unfold KN at h
 cases e:find ks n with
 |none=>rw[e]at h;cases h
 |some x=>rfl
theorem Vc {ks:List Known} {n:Nat} (h:¬KN ks n):find ks n=none:=by
 unfold KN at h
 cases e:find ks n with
 |none=>rfl
 |some x=>rw[e]at h;exact absurd rfl h
theorem JY {ks:List Known} {k:Known} (h:¬KN ks k.name):blockOf (ks++[k]) k.name=k.block:=by
 unfold blockOf
 rw[Q8,Vc h]
 simp
theorem CI {ks:List Known} {k:Known} {n:Nat}:KN (ks++[k]) n↔KN ks n\/n=k.name:=by
 rw[OL,OL]
 simp
theorem U1 {K:Nat->Prop} {B:Nat->Row} (W:World K B) {n:Nat} (hn:K n) {blk r s:Row} (hnd:(nms (blk++r)).Nodup) (q:Q (blk++r) (B n++s)) (hm:n∈nms blk):∃s',Q blk (B n++s'):=by
 have h1:=BI (q.nodup hnd)
 obtain ⟨f,r',e,q1,q2⟩:=EH q.symm h1
 obtain ⟨fa,ra,f2,e2,rfl⟩:=Cf e
 obtain ⟨q3,n3,n4⟩:=C1 e2
 have hfa:n∈nms fa:=by
  rw[n3]
  exact List.mem_filter.2 ⟨hm,mem_iff.2 (W.self_mem hn)⟩
 have hf2:f2=[]:=by
  rcases List.eq_nil_or_concat f2 with h|⟨d,e3,h⟩
  ·exact h
  ·exfalso
   rw[List.concat_eq_append]at h
   subst h
   have:=W.only n hn (fa++d) e3 (by rw[List.append_assoc];exact q1)
   have hnd2:=q1.nodup (W.nodup n hn)
   refine (Ac hnd2).2.2 n hfa ?_
   rw[Gb,this]
   simp
 subst hf2
 rw[List.append_nil]at q1
 exact ⟨ra,q3.trans (q1.symm.append_right ra)⟩
theorem CD.record {t:Tree} (ht:Srt t) {ks:List Known} (I:CD t ks) {s:Names} (hs:∀n∈s,KN ks n) {m:Nat} (hm:¬KN ks m) {p:Step} (hp:Ok p) (hp2:BX p) {u w:Tree} (hu:Vapate.outcome t ks s=some u) (hw:applied u p=some w) (hlen:ks.length<12) (es:Names):
  ∃blk r,Vapatc.picked (Vapate.rowOf ks s++[⟨m,p⟩]) [m]=some (blk,r)/\blk=bf (Vapate.rowOf ks s).reverse [⟨m,p⟩]/\CD t (ks++[⟨m,blk,es⟩])/\(∀x∈nms blk,x=m\/x∈nms (Vapate.rowOf ks s))/\Good (Vapate.rowOf ks s++[⟨m,p⟩])/\(nms (Vapate.rowOf ks s++[⟨m,p⟩])).Nodup:=by
 have R:=DO ht I hs
 generalize hr:Vapate.rowOf ks s=row at*
 have hmr:m∉nms row:=fun h=>hm (R.con.2 m h).1
 have hnd:(nms (row++[⟨m,p⟩])).Nodup:=by
  rw[AO,List.nodup_append]
  refine ⟨R.con.1,by simp[nms],?_⟩
  rintro a ha b hb rfl
  simp[nms]at hb
  subst hb
  exact hmr ha
 have hg:Good (row++[⟨m,p⟩]):=Good.append.2 ⟨R.good,by intro x hx;simp at hx;subst hx;exact ⟨hp,hp2⟩⟩
 obtain ⟨r,e1,q,ho⟩:=FB (p:=⟨m,p⟩) hg.ok hnd
 obtain ⟨d,-,-,hsub,tl,htl⟩:=K0 (n:=m) (l:=row.reverse) (b:=[⟨m,p⟩]) (JT ⟨m,p⟩) (by simpa using hnd) ⟨[],by simp[nms]⟩
 rw[List.reverse_reverse]at hsub
 refine ⟨_,r,e1,rfl,?_,?_,hg,hnd⟩
 ·generalize hb:bf row.reverse [⟨m,p⟩]=blk at*
  have hnb:(nms blk).Nodup:=List.Nodup.sublist hsub hnd
  have hnq:=q.nodup hnd
  have hin:∀x∈nms blk,x=m\/x∈nms row:=by
   intro x hx
   have:=hsub.subset hx
   rw[AO,List.mem_append]at this
   rcases this with h|h
   ·exact Or.inr h
   ·simp[nms]at h;exact Or.inl h
  have bnew:blockOf (ks++[⟨m,blk,es⟩]) m=blk:=JY (k:=⟨m,blk,es⟩) hm
  have hne:∀{n:Nat},KN ks n->n≠m:=fun h e=>hm (e▸h)
  refine ⟨⟨?_,?_,?_,?_⟩,?_,?_,?_,?_⟩
  ·intro n hn
   rcases CI.1 hn with h|rfl
   ·rw[Bs h];exact I.W.last n h
   ·rw[bnew]
    have hne:blk≠[]:=by
     rintro rfl
     simp[nms]at htl
    obtain ⟨r',v,rfl⟩:=Bx hne
    refine ⟨r',v,rfl,?_⟩
    rw[Gb]at htl
    have:=List.append_inj' htl (by simp)
    simpa using this.2
  ·intro n hn
   rcases CI.1 hn with h|rfl
   ·rw[Bs h];exact I.W.nodup n h
   ·rw[bnew];exact hnb
  ·intro n hn x hx
   rcases CI.1 hn with h|rfl
   ·rw[Bs h]at hx ⊢
    obtain ⟨k1,s1,q1⟩:=I.W.closed n h x hx
    refine ⟨CI.2 (Or.inl k1),s1,?_⟩
    rw[Bs k1]
    exact q1
   ·rw[bnew]at hx ⊢
    rcases hin x hx with rfl|hxr
    ·refine ⟨CI.2 (Or.inr rfl),[],?_⟩
     rw[bnew,List.append_nil]
     exact .refl _
    ·obtain ⟨kx,s1,q1⟩:=R.con.2 x hxr
     refine ⟨CI.2 (Or.inl kx),?_⟩
     rw[Bs kx]
     refine U1 I.W kx hnq ?_ hx (s:=s1++[⟨n,p⟩])
     have:=q1.append_right [⟨n,p⟩]
     rw[List.append_assoc]at this
     exact q.symm.trans this
  ·intro n hn
   rcases CI.1 hn with h|rfl
   ·rw[Bs h];exact I.W.only n h
   ·rw[bnew];exact ho
  ·intro n hn
   rcases CI.1 hn with h|rfl
   ·rw[Bs h];exact I.good n h
   ·rw[bnew];exact (Good.append.1 (Good.Q q hg)).1
  ·intro n hn
   rcases CI.1 hn with h|rfl
   ·rw[Bs h];exact I.fit n h
   ·rw[bnew]
    have hu':app t row=some u:=by subst hr;exact hu
    have h1:app t (row++[⟨n,p⟩])=some w:=BO.2 ⟨u,hu',BR.2 ⟨w,hw,MG w⟩⟩
    obtain ⟨v,h2,-⟩:=BO.1 (OV q ht h1)
    exact ⟨v,h2⟩
  ·rw[List.map_append,List.nodup_append]
   refine ⟨I.nd,by simp,?_⟩
   rintro a ha b hb rfl
   simp at hb
   subst hb
   exact hm (OL.2 ha)
  ·rw[List.length_append]
   simp
   omega
 ·intro x hx
  have:=hsub.subset hx
  rw[AO,List.mem_append]at this
  rcases this with h|h
  ·exact Or.inr h
  ·simp[nms]at h;exact Or.inl h
end Ps
end
section
namespace Ps
open VapatBase
open Vapatc (Patch Row)
open Vapate (Known Names find blockOf endsOf needsOf)
open Pz (Good CM BX)
abbrev Up (l:List Nat):Prop:=l.Pairwise (·<·)
theorem KQ {n x:Nat}:∀{l:List Nat},x∈Vapatc.put n l↔x=n\/x∈l
 |[]=>by simp[Vapatc.put]
 |y::l=>by
  simp only[Vapatc.put]
  split
  ·simp
  ·rw[List.mem_cons,KQ,List.mem_cons]
   constructor
   ·rintro (h|h|h)
    ·exact Or.inr (Or.inl h)
    ·exact Or.inl h
    ·exact Or.inr (Or.inr h)
   ·rintro (h|h|h)
    ·exact Or.inr (Or.inl h)
    ·exact Or.inl h
    ·exact Or.inr (Or.inr h)
theorem TR {n:Nat}:∀{l:List Nat},Up l->n∉l->Up (Vapatc.put n l)
 |[],_,_=>by simp[Vapatc.put]
 |y::l,h,hn=>by
  simp only[Vapatc.put]
  split
  next c=>
   refine List.Pairwise.cons ?_ h
   intro z hz
   rcases List.mem_cons.1 hz with rfl|hz
   ·exact c
   ·have:=(List.pairwise_cons.1 h).1 z hz
    omega
  next c=>
   have hne:n≠y:=fun e=>hn (by rw[e];exact List.mem_cons_self ..)
   refine List.Pairwise.cons ?_ (TR (List.pairwise_cons.1 h).2 fun q=>hn (List.mem_cons_of_mem _ q))
   intro z hz
   rcases KQ.1 hz with rfl|hz
   ·omega
   ·exact (List.pairwise_cons.1 h).1 z hz
theorem Mg:∀(l k:List Nat),Up k->l.Nodup->(∀x∈l,x∉k)->Up (l.foldl (fun k x=>Vapatc.put x k) k)/\∀x,x∈l.foldl (fun k x=>Vapatc.put x k) k↔x∈l\/x∈k
 |[],k,h,_,_=>⟨h,by simp⟩
 |y::l,k,h,hn,hd=>by
  rw[List.nodup_cons]at hn
  have:=Mg l (Vapatc.put y k) (TR h (hd y (List.mem_cons_self ..))) hn.2 (by
   intro x hx hp
   rcases KQ.1 hp with rfl|hp
   ·exact hn.1 hx
   ·exact hd x (List.mem_cons_of_mem _ hx) hp)
  refine ⟨this.1,fun x=>?_⟩
  rw[List.foldl_cons,this.2 x,KQ,List.mem_cons]
  constructor
  ·rintro (a|a|a)
   ·exact Or.inl (Or.inr a)
   ·exact Or.inl (Or.inl a)
   ·exact Or.inr a
  ·rintro ((a|a)|a)
   ·exact Or.inr (Or.inl a)
   ·exact Or.inl a
   ·exact Or.inr (Or.inr a)
theorem BS {l:List Nat} (h:Up l):l.Nodup:=List.Pairwise.imp (fun h=>Nat.ne_of_lt h) h
theorem Er {a b:Names} (ha:Up a) (hb:b.Nodup):Up (Vapate.union a b)/\∀x,x∈Vapate.union a b↔x∈a\/x∈b:=by
 unfold Vapate.union Vapatc.rising
 have hnd:(a++b.filter fun n=>!a.contains n).Nodup:=by
  rw[List.nodup_append]
  refine ⟨BS ha,List.Nodup.sublist List.filter_sublist hb,?_⟩
  rintro x hx y hy rfl
  have:=(List.mem_filter.1 hy).2
  simp at this
  exact this hx
 obtain ⟨h1,h2⟩:=Mg (a++b.filter fun n=>!a.contains n) [] .nil hnd (by simp)
 refine ⟨h1,fun x=>?_⟩
 rw[h2 x]
 simp only[List.mem_append,List.mem_filter,List.not_mem_nil,or_false,Bool.not_eq_true',List.contains_eq_mem,decide_eq_false_iff_not]
 by_cases hx:x∈a
 ·simp[hx]
 ·simp[hx]
structure NOk (ks:List Known) (a:Names):Prop where
 up:Up a
 kn:∀n∈a,KN ks n
 cl:∀n∈a,∀x∈nms (blockOf ks n),x∈a
theorem NOk.nil (ks:List Known):NOk ks []:=⟨.nil,by simp,by simp⟩
theorem NOk.old {ks:List Known} {k:Known} {a:Names} (h:NOk ks a):NOk (ks++[k]) a:=
 ⟨h.up,fun n hn=>CI.2 (Or.inl (h.kn n hn)),fun n hn x hx=>by
  rw[Bs (h.kn n hn)]at hx
  exact h.cl n hn x hx⟩
theorem NOk.len {t:Tree} {ks:List Known} (I:CD t ks) {a:Names} (h:NOk ks a):a.length<=12:=Nat.le_trans (len_sub (BS h.up) h.kn) I.len
theorem NOk.union {ks:List Known} {a b:Names} (ha:NOk ks a) (hb:NOk ks b):NOk ks (Vapate.union a b):=by
 obtain ⟨h1,h2⟩:=Er ha.up (BS hb.up)
 refine ⟨h1,fun n hn=>?_,fun n hn x hx=>?_⟩
 ·rcases (h2 n).1 hn with h|h
  ·exact ha.kn n h
  ·exact hb.kn n h
 ·rw[h2 x]
  rcases (h2 n).1 hn with h|h
  ·exact Or.inl (ha.cl n h x hx)
  ·exact Or.inr (hb.cl n h x hx)
theorem CD.sub_trans {t:Tree} {ks:List Known} (I:CD t ks) {n m x:Nat} (hn:KN ks n) (hm:m∈nms (blockOf ks n)) (hx:x∈nms (blockOf ks m)):x∈nms (blockOf ks n):=by
 exact Con.sub (Con.self I.W hn) hm x hx
theorem NOk.brought {t:Tree} {ks:List Known} (I:CD t ks) {a b:Names} (ha:NOk ks a) {m:Nat} (hm:KN ks m):NOk ks (Vapate.brought ks a m):=by
 unfold Vapate.brought
 have hb:(needsOf ks m).Nodup:=I.W.nodup m hm
 obtain ⟨h1,h2⟩:=Er ha.up hb
 refine ⟨h1,fun n hn=>?_,fun n hn x hx=>?_⟩
 ·rcases (h2 n).1 hn with h|h
  ·exact ha.kn n h
  ·exact (I.W.closed m hm n h).1
 ·rw[h2 x]
  rcases (h2 n).1 hn with h|h
  ·exact Or.inl (ha.cl n h x hx)
  ·exact Or.inr (I.sub_trans hm h hx)
theorem NOk.forgotten {t:Tree} {ks:List Known} (I:CD t ks) {a:Names} (ha:NOk ks a) (m:Nat):NOk ks (Vapate.forgotten ks a m):=by
 unfold Vapate.forgotten
 refine ⟨List.Pairwise.sublist List.filter_sublist ha.up,fun n hn=>ha.kn n (List.mem_filter.1 hn).1,fun n hn x hx=>?_⟩
 obtain ⟨h1,h2⟩:=List.mem_filter.1 hn
 refine List.mem_filter.2 ⟨ha.cl n h1 x hx,?_⟩
 simp only[Bool.not_eq_true',List.contains_eq_mem,decide_eq_false_iff_not]at h2 ⊢
 exact fun h=>h2 (I.sub_trans (ha.kn n h1) hx h)
structure Bn (t:Tree) (s:Vapate.State):Prop where
 tree:s.tree=some t
 srt:Srt t
 tb:TB 6 12 t
 I:CD t s.known
 ends:∀k∈s.known,k.ends.length<=12/\∀e∈k.ends,KN s.known e
 sl:s.stores.length=3
 st:∀a∈s.stores,NOk s.known a
 tl:s.tags.length=4
 tg:∀a,some a∈s.tags->NOk s.known a
def Db (s:Vapate.State):Prop:=s=Vapate.start\/∃t,Bn t s
theorem Bn.set {t:Tree} {s:Vapate.State} (T:Bn t s) {k:Nat} {a:Names} (ha:NOk s.known a):Bn t {s with stores:=s.stores.set k a} where
 tree:=T.tree
 srt:=T.srt
 tb:=T.tb
 I:=T.I
 ends:=T.ends
 sl:=by simp[T.sl]
 st:=fun b hb=>by
  rcases List.mem_or_eq_of_mem_set hb with h|rfl
  ·exact T.st b h
  ·exact ha
 tl:=T.tl
 tg:=T.tg
theorem Bn.tag {t:Tree} {s:Vapate.State} (T:Bn t s) {k:Nat} {a:Names} (ha:NOk s.known a):Bn t {s with tags:=s.tags.set k (some a)} where
 tree:=T.tree
 srt:=T.srt
 tb:=T.tb
 I:=T.I
 ends:=T.ends
 sl:=T.sl
 st:=T.st
 tl:=by simp[T.tl]
 tg:=fun b hb=>by
  rcases List.mem_or_eq_of_mem_set hb with h|h
  ·exact T.tg b h
  ·cases h;exact ha
theorem GA {t:Tree} {s:Vapate.State} (T:Bn t s) (r:Int):Vapate.storeOf s r=if 0<=r/\r<3 then some (r.toNat,(s.stores[r.toNat]?).getD []) else none:=by
 unfold Vapate.storeOf Vapate.upTo
 by_cases h:0<=r/\r<3
 ·rw[if_pos h,if_pos (by simp[Vapate.int,Vapate.STORES];omega)]
  have:r.toNat<s.stores.length:=by rw[T.sl];omega
  simp[this]
 ·rw[if_neg h,if_neg (by simp[Vapate.int,Vapate.STORES];omega)]
  rfl
theorem Bf {t:Tree} {s:Vapate.State} (T:Bn t s) {r:Int} {k:Nat} {a:Names} (h:Vapate.storeOf s r=some (k,a)):NOk s.known a/\s.stores[k]?=some a/\0<=r/\r<3/\k=r.toNat:=by
 rw[GA T]at h
 split at h
 next c=>
  have hl:r.toNat<s.stores.length:=by rw[T.sl];omega
  cases h
  have e:s.stores[r.toNat]?=some ((s.stores[r.toNat]?).getD []):=by simp[hl]
  exact ⟨T.st _ (List.mem_of_getElem? e),e,c.1,c.2,rfl⟩
 ·cases h
end Ps
end
section
namespace Ps
open VapatBase
open Vapatc (Patch Row)
open Vapate (Known Names find blockOf endsOf needsOf)
open Pz (Good CM BX)
theorem M7 {p:Step} (h:∀f g,p≠.move f g):Ok p:=by
 cases p with
 |move f g=>exact absurd rfl (h f g)
 |_=>exact True.intro
theorem Mp {l:List Int} {p:Step} (h:whole readStep l=some p):Ok p/\BX p:=by
 cases l with
 |nil=>simp[whole,readStep]at h
 |cons k r=>
  by_cases h0:k=0
  ·subst h0
   rw[OQ]at h
   unfold F9 at h
   split at h
   next f a r3 e=>
    split at h
    ·split at h
     ·cases h
     next o r4 e1=>
      split at h
      ·cases h
      next n r5 e2=>
       split at h
       ·cases h
        exact ⟨M7 (by intros;simp),(CC e1).1,(CC e2).1⟩
       ·cases h
    ·cases h
   ·cases h
  by_cases h1:k=1
  ·subst h1
   rw[Og]at h
   unfold BM at h
   split at h
   ·split at h
    ·cases h;exact ⟨M7 (by intros;simp),True.intro⟩
    ·cases h
   ·cases h
  by_cases h2:k=2
  ·subst h2
   rw[Q2]at h
   unfold DD at h
   split at h
   ·split at h
    ·split at h<;>cases h<;>exact ⟨M7 (by intros;simp),True.intro⟩
    ·cases h
   ·cases h
  by_cases h3:k=3
  ·subst h3
   rw[Q6]at h
   unfold DD at h
   split at h
   ·split at h
    ·split at h<;>cases h<;>exact ⟨M7 (by intros;simp),True.intro⟩
    ·cases h
   ·cases h
  by_cases h4:k=4
  ·subst h4
   rw[OY]at h
   unfold Bz at h
   split at h
   next x f g e=>
    split at h
    next c=>
     cases h
     refine ⟨?_,True.intro⟩
     show f.toNat≠g.toNat
     omega
    ·cases h
   ·cases h
  rw[Mh r ⟨h0,h1,h2,h3,h4⟩]at h
  cases h
theorem Bn.onStore {t:Tree} {s:Vapate.State} (T:Bn t s) (r:Int) {f:Tree->Nat->Names->Vapate.State×Vapate.Answer} (h:∀k a,Vapate.storeOf s r=some (k,a)->Db (f t k a).1):Db (Vapate.onStore s r f).1:=by
 unfold Vapate.onStore Vapate.onTree
 rw[T.tree]
 simp only
 cases e:Vapate.storeOf s r with
 |none=>exact Or.inr ⟨t,T⟩
 |some x=>exact h x.1 x.2 e
theorem Bn.onStores {t:Tree} {s:Vapate.State} (T:Bn t s) (r q:Int) {f:Nat->Names->Names->Vapate.State×Vapate.Answer} (h:∀k a j b,Vapate.storeOf s r=some (k,a)->Vapate.storeOf s q=some (j,b)->Db (f k a b).1):Db (Vapate.onStores s r q f).1:=by
 unfold Vapate.onStores
 refine T.onStore r fun k a e=>?_
 cases e2:Vapate.storeOf s q with
 |none=>exact Or.inr ⟨t,T⟩
 |some y=>exact h k a y.1 y.2 e e2
theorem Gv {a:Names} {n:Int} {m:Nat} (h:Vapate.nameIn a n=some m):m∈a/\0<=n/\m=n.toNat:=by
 unfold Vapate.nameIn at h
 split at h
 next c=>
  cases h
  exact ⟨by simpa using c.2,c.1,rfl⟩
 ·cases h
theorem OI {s:Vapate.State} {k:Int} {a:Names} (h:((Vapate.upTo k (Vapate.TAGS - 1)).bind fun j=>(s.tags[j]?).bind fun x=>x)=some a):some a∈s.tags:=by
 simp only[Option.bind_eq_some_iff]at h
 obtain ⟨j,-,x,h2,rfl⟩:=h
 exact List.mem_of_getElem? h2
theorem Gh {a:Names} {l:List Int} {es:Names} (h:Vapate.namesTold a l=some es):es=l.map Int.toNat/\(∀e∈es,e∈a)/\es.length=l.length/\es.Nodup:=by
 unfold Vapate.namesTold at h
 split at h
 next c=>
  cases h
  rw[Bool.and_eq_true,List.all_eq_true,List.all_eq_true]at c
  have h0:∀z∈l,0<=z/\z.toNat∈a:=by
   intro z hz
   have:=c.1 z hz
   cases e:Vapate.nameIn a z with
   |none=>rw[e]at this;cases this
   |some m=>
    obtain ⟨h1,h2,h3⟩:=Gv e
    exact ⟨h2,h3▸h1⟩
  refine ⟨rfl,?_,by simp,?_⟩
  ·intro e he
   obtain ⟨z,hz,rfl⟩:=List.mem_map.1 he
   exact (h0 z hz).2
  ·have hnd:l.Nodup:=by
    rw[List.nodup_iff_pairwise_ne]
    rw[List.pairwise_iff_getElem]
    intro i j hi hj hij e
    have:=c.2 (l[j],j) (by
     rw[List.mem_zipIdx_iff_getElem?]
     simp[hj])
    simp only[Bool.not_eq_true',List.contains_eq_mem,decide_eq_false_iff_not]at this
    apply this
    rw[<-e,List.mem_take_iff_getElem]
    exact ⟨i,by omega,rfl⟩
   rw[List.nodup_iff_pairwise_ne]at hnd ⊢
   rw[List.pairwise_map]
   refine List.Pairwise.imp_of_mem ?_ hnd
   intro x y hx hy hxy e
   have:=(h0 x hx).1
   have:=(h0 y hy).1
   omega
 ·cases h
theorem WD {s:Vapate.State} (h:Db s) (c:Vapate.Call):Db (Vapate.step s c).1:=by
 rcases h with rfl|⟨t,T⟩
 ·cases c with
  |tree l=>
   simp only[Vapate.step]
   rw[Ke]
   cases e:DF l with
   |none=>exact Or.inl rfl
   |some t=>
    obtain ⟨h1,h2⟩:=M6 e
    exact Or.inr ⟨t,rfl,h1,h2,CD.nil t,by simp,rfl,fun a ha=>by simp[Vapate.STORES]at ha;subst ha;exact NOk.nil _,rfl,fun a ha=>by simp[Vapate.TAGS]at ha⟩
  |_=>exact Or.inl rfl
 ·cases c with
  |tree l=>
   simp only[Vapate.step]
   rw[Ke]
   cases e:DF l with
   |none=>exact Or.inr ⟨t,T⟩
   |some t=>
    obtain ⟨h1,h2⟩:=M6 e
    exact Or.inr ⟨t,rfl,h1,h2,CD.nil t,by simp,rfl,fun a ha=>by simp[Vapate.STORES]at ha;subst ha;exact NOk.nil _,rfl,fun a ha=>by simp[Vapate.TAGS]at ha⟩
  |record r n e l=>
   simp only[Vapate.step,Vapate.doRecord]
   refine T.onStore r fun k a hsa=>?_
   obtain ⟨na,hk,-⟩:=Bf T hsa
   split
   ·exact Or.inr ⟨t,T⟩
   next m hm=>
    split
    ·exact Or.inr ⟨t,T⟩
    next hnk=>
     split
     ·exact Or.inr ⟨t,T⟩
     next p hp=>
      split
      ·exact Or.inr ⟨t,T⟩
      next hlen=>
       split
       ·exact Or.inr ⟨t,T⟩
       next es hes=>
        split
        ·exact Or.inr ⟨t,T⟩
        next w hw=>
         split
         ·exact Or.inr ⟨t,T⟩
         next hend=>
          obtain ⟨u,hu,hw2⟩:=Option.bind_eq_some_iff.1 hw
          obtain ⟨op,sp⟩:=Mp hp
          have hnk':¬KN s.known m:=hnk
          obtain ⟨blk,rr,e1,e2,I',hin,-⟩:=T.I.record T.srt na.kn hnk' op sp hu hw2 (by unfold Vapate.PATCHES at hlen;omega) es
          rw[e1]
          simp only[Option.map_some,Option.getD_some]
          obtain ⟨f1,f2,f3,f4⟩:=Gh hes
          have hna:NOk (s.known++[⟨m,blk,es⟩]) (Vapate.union a [m]):=by
           obtain ⟨h1,h2⟩:=Er (b:=[m]) na.up (by simp)
           refine ⟨h1,fun x hx=>?_,fun x hx y hy=>?_⟩
           ·rcases (h2 x).1 hx with h|h
            ·exact CI.2 (Or.inl (na.kn x h))
            ·simp at h;subst h;exact CI.2 (Or.inr rfl)
           ·rw[h2 y]
            rcases (h2 x).1 hx with h|h
            ·rw[Bs (na.kn x h)]at hy
             exact Or.inl (na.cl x h y hy)
            ·simp at h
             subst h
             rw[JY (k:=⟨x,blk,es⟩) hnk']at hy
             rcases hin y hy with rfl|h
             ·exact Or.inr (by simp)
             ·obtain ⟨z,hz,hyz⟩:=((DO T.srt T.I na.kn).names y).1 h
              exact Or.inl (na.cl z (Eg (Br hz)) y hyz)
          refine Or.inr ⟨t,T.tree,T.srt,T.tb,I',?_,by simp[T.sl],?_,T.tl,fun b hb=>(T.tg b hb).old⟩
          ·intro k' hk'
           rcases List.mem_append.1 hk' with h|h
           ·exact ⟨(T.ends k' h).1,fun e' he'=>CI.2 (Or.inl ((T.ends k' h).2 e' he'))⟩
           ·simp at h
            subst h
            refine ⟨?_,fun e' he'=>CI.2 (Or.inl (na.kn e' (f2 e' he')))⟩
            have:=K2 f4 f2
            have:=na.len T.I
            simp only
            omega
          ·intro b hb
           rcases List.mem_or_eq_of_mem_set hb with h|rfl
           ·exact (T.st b h).old
           ·exact hna
  |known r=>exact T.onStore r fun k a e=>Or.inr ⟨t,T⟩
  |row r=>exact T.onStore r fun k a e=>Or.inr ⟨t,T⟩
  |outcome r=>exact T.onStore r fun k a e=>Or.inr ⟨t,T⟩
  |conflicts r=>exact T.onStore r fun k a e=>Or.inr ⟨t,T⟩
  |idle r=>exact T.onStore r fun k a e=>Or.inr ⟨t,T⟩
  |block n=>
   simp only[Vapate.step,Vapate.onTree]
   rw[T.tree]
   simp only
   split
   ·exact Or.inr ⟨t,T⟩
   ·exact Or.inr ⟨t,T⟩
  |bring r q n=>
   refine T.onStores r q fun k a j b h1 h2=>?_
   split
   ·exact Or.inr ⟨t,T⟩
   next m hm=>
    have:=(Bf T h2).1.kn m (Gv hm).1
    exact Or.inr ⟨t,T.set (NOk.brought (b:=b) T.I (Bf T h1).1 this)⟩
  |pull r q=>
   refine T.onStores r q fun k a j b h1 h2=>?_
   exact Or.inr ⟨t,T.set ((Bf T h1).1.union (Bf T h2).1)⟩
  |forget r n=>
   refine T.onStore r fun k a h1=>?_
   split
   ·exact Or.inr ⟨t,T⟩
   next m hm=>exact Or.inr ⟨t,T.set (NOk.forgotten T.I (Bf T h1).1 m)⟩
  |tag r k=>
   refine T.onStore r fun j a h1=>?_
   split
   ·exact Or.inr ⟨t,T⟩
   ·exact Or.inr ⟨t,T.tag (Bf T h1).1⟩
  |at_ k=>
   simp only[Vapate.step,Vapate.onTree]
   rw[T.tree]
   simp only
   split
   ·exact Or.inr ⟨t,T⟩
   ·exact Or.inr ⟨t,T⟩
  |back r k=>
   refine T.onStore r fun j a h1=>?_
   split
   ·exact Or.inr ⟨t,T⟩
   next b hb=>exact Or.inr ⟨t,T.set (T.tg b (OI hb))⟩
  |alike r q=>
   exact T.onStores r q fun k a j b h1 h2=>Or.inr ⟨t,T⟩
end Ps
end
namespace Pz
open PySem PySem.Spec PyProof.Rows L2
local macro_rules | `(tactic| trivial) => `(tactic| simp only [UR, U3, Ur, UO, Qr, PY, Qq, KG, Ld, rI0, rI, rU, tC, Rp, tOp, tUn, tB, O6, UP, U0, tOr, tIf, Ut, R3, UK, UM, Qw, O8, tCB, R1, Lz, Uc, UN, tSl, Qz, MH, B6, AU, tBM, ME, M8, Ih, Rr, HZ, Ig, U2, Uk, Uh, Qy, UU, RV, SG, PH, Qv, Qj, Qx, Qu, RY, Qp, Uo, U5, Qo, UV, Us, Pa, t2I, Ql, Jt, OB, Qm, UZ, MN, Qi, OA, S1, Um, Kb, KI, KL, R4, U9, Ud, KR, rIn, V.int.injEq,
 L2.start,List.map_cons,List.map_nil,List.length_cons,List.length_nil,List.cons_append,List.nil_append,List.append_nil,List.getElem?_cons_zero,List.getElem?_cons_succ,List.set_cons_zero,List.set_cons_succ,Option.some.injEq,exists_eq_left',exists_eq_left,V.int.injEq,V.bl.injEq,V.ref.injEq,exists_and_left,exists_eq_right,exists_eq_right',exists_and_right,exists_eq',true_and,decide_eq_true_eq,Bool.not_eq_true',decide_eq_false_iff_not,List.replicate,Nat.sub_self,Nat.zero_add,Nat.reduceAdd,Nat.reduceSub,List.cons.injEq,and_true,if_true,Bool.false_eq_true,if_false,Bool.not_true,Bool.not_false,ite_true,ite_false,reduceIte])
local macro_rules | `(tactic| nofun) => `(tactic| first | exact Or.inl rfl | exact Or.inr rfl)
local macro_rules | `(tactic| ac_rfl) => `(tactic| ((repeat (first | rw [B8, if_pos rfl] | rw [B8, if_neg (by decide)])); try rfl))
section
def Az (K:PySem.W.Frag) (H:Hp) (kvs:List (Key×V)) (t:VapatBase.Tree):Prop:=(kvs.map (·.1)).Nodup/\(∀k∈kvs.map (·.1),∃n:Nat,k=Sum.inl (n:Int))/\
 ∀n:Nat,match VapatBase.fileIn t n with
  |none=>Ae kvs (Sum.inl (n:Int))=none
  |some c=>∃u,Ae kvs (Sum.inl (n:Int))=some u/\E2 K H u c
def treeV (K:PySem.W.Frag) (H:Hp) (v:V) (t:VapatBase.Tree):Prop:=∃a kvs,v=.ref a/\H a=some (.dK kvs)/\Az K H kvs t
theorem Az.t {K:PySem.W.Frag} {H H':Hp} {kvs:List (Key×V)} {t:VapatBase.Tree} (e:AQ K H H') (h:Az K H kvs t):Az K H' kvs t:=by
 refine ⟨h.1,h.2.1,fun n=>?_⟩
 have:=h.2.2 n
 split at this
 next q=>rw[q]at*;exact this
 next c q=>
  obtain ⟨u,h1,h2⟩:=this
  exact ⟨u,h1,h2.t e⟩
theorem treeV.same {K:PySem.W.Frag} {H H':Hp} {v:V} {t:VapatBase.Tree} (e:A1 H H') (h:treeV K H v t):treeV K H' v t:=by
 obtain ⟨a,kvs,rfl,h1,h2⟩:=h
 exact ⟨a,kvs,rfl,e _ _ h1,h2.t (.of e)⟩
theorem Az.none {K:PySem.W.Frag} {H:Hp} {kvs:List (Key×V)} {t:VapatBase.Tree} {n:Nat} (h:Az K H kvs t) (e:VapatBase.fileIn t n=none):Ae kvs (Sum.inl (n:Int))=none:=by
 have:=h.2.2 n
 rw[e]at this
 exact this
theorem Az.some {K:PySem.W.Frag} {H:Hp} {kvs:List (Key×V)} {t:VapatBase.Tree} {n:Nat} {c:List Nat} (h:Az K H kvs t) (e:VapatBase.fileIn t n=some c):∃u,Ae kvs (Sum.inl (n:Int))=some u/\E2 K H u c:=by
 have:=h.2.2 n
 rw[e]at this
 exact this
theorem Az.isSome {K:PySem.W.Frag} {H:Hp} {kvs:List (Key×V)} {t:VapatBase.Tree} {n:Nat} (h:Az K H kvs t):(Ae kvs (Sum.inl (n:Int))).isSome=(VapatBase.fileIn t n).isSome:=by
 cases e:VapatBase.fileIn t n with
 |none=>rw[h.none e];rfl
 |some c=>
  obtain ⟨u,h1,-⟩:=h.some e
  rw[h1];rfl
def pyN (n:Nat):PyData:=.int (n:Int)
theorem Gd {K:PySem.W.Frag} {H:Hp}:∀l:List Nat,J8 K H (l.map iN) (l.map pyN)
 |[]=>.nil
 |n::l=>.cons (.int _) (Gd l)
theorem Ie:∀l m:List Nat,PyData.eqvAll (l.map pyN) (m.map pyN)=decide (l=m)
 |[],[]=>by simp[PyData.eqvAll]
 |[],_::_=>by simp[PyData.eqvAll]
 |_::_,[]=>by simp[PyData.eqvAll]
 |a::l,b::m=>by
  simp only[List.map_cons,PyData.eqvAll,pyN,PyData.eqv]
  rw[Ie l m]
  by_cases h:a=b
  ·subst h;simp
  ·have h2:((a:Int)==(b:Int))=false:=by simp;omega
   rw[h2]
   simp[h]
theorem Io:∀l:List Nat,PyData.canLayAll0 (l.map pyN)=true
 |[]=>rfl
 |n::l=>by simp[PyData.canLayAll0,PyData.canLay0,pyN];exact Io l
theorem G7:∀l:List Nat,PyData.depthAll (l.map pyN)<=1
 |[]=>by simp[PyData.depthAll]
 |n::l=>by
  have:=G7 l
  simp only[List.map_cons,PyData.depthAll,pyN,PyData.depth]
  omega
theorem Mj (l:List Nat):SeqAt.shaped (.tuple (l.map pyN))=true:=by
 unfold SeqAt.shaped
 rw[Bool.and_eq_true]
 refine ⟨Io l,decide_eq_true ?_⟩
 have:=G7 l
 simp only[PyData.depth]
 omega
theorem WL {c:List Nat} {a m:Nat} (h:a<=c.length):BG (c.map iN) (some (a:Int)) (some ((a:Int)+(m:Int)))=((c.drop a).take m).map iN:=by
 unfold BG
 have e:((a:Int)+(m:Int))=((a+m:Nat):Int):=by omega
 rw[e,HT.sIx_nat,HT.sIx_nat,List.length_map,Nat.min_eq_left h,<-List.map_drop,<-List.map_take]
 congr 1
 by_cases hm:a+m<=c.length
 ·rw[Nat.min_eq_left hm,show a+m - a=m by omega]
 ·rw[Nat.min_eq_right (by omega),List.take_of_length_le (by rw[List.length_drop];exact Nat.le_refl _),List.take_of_length_le (by rw[List.length_drop];omega)]
theorem WP {c:List Nat} {a:Nat} (h:a<=c.length):BG (c.map iN) none (some (a:Int))=(c.take a).map iN:=by
 unfold BG
 rw[HT.sIx_nat,HT.sIx_none,List.length_map,Nat.min_eq_left h,List.drop_zero,Nat.sub_zero,<-List.map_take]
theorem Ro {c:List Nat} {a:Nat}:BG (c.map iN) (some (a:Int)) none=(c.drop a).map iN:=by
 rw[NV (n:=a) (m:=a) rfl,<-List.map_drop]
section
variable {P:Program} {w:World} {K:PySem.W.Frag} {mg:Str->Option Value} {base:Heap}
abbrev IK:Stmt:=top 53
theorem IL:AC ["hunk","tokens","place","old"] ["hunk","tokens"] (A7 IK):=⟨rfl,rfl,rfl,by decide+kernel,rfl,by decide+kernel,by decide+kernel⟩
def LF (K:PySem.W.Frag):Sp:=fun vs H Q _=>∃(v u:V) (f a:Nat) (o n c:List Nat),vs=[v,u]/\An K H v (.hunk f a o n)/\E2 K H u c/\o.length<=1000/\c.length<=1000/\∀H',A1 H H'->Q (.bl (VapatBase.spliced c a o n).isSome) H'
theorem RC (T:Txt K mg) (D:AA K mg "hunk_fits" IK ["hunk","tokens"]):OkF P w K mg base 1 "hunk_fits" ["hunk","tokens"] (LF K):=by
 refine D.ok IL (fun vs H Q E h=>?_) (fun f cdv A outer s H vs Q E hr h=>?_)
 ·obtain ⟨v,u,f,a,o,n,c,rfl,_⟩:=h
  rfl
 ·obtain ⟨v,u,fl,a,o,n,c,rfl,⟨p,vo,vn,rfl,hS,⟨po,rfl,ho⟩,hn⟩,⟨pc,rfl,hc⟩,lo,lc,k⟩:=h
  have hu64:=hr.units
  refine ⟨_,(A2 (AE (i:=2) IL.nd rfl (by nofun) (AF (r:=AU K) AL (pv 0) A9 (fun _ _=>rfl)))
   (A2 (AE (i:=3) IL.nd rfl (by nofun) (AF (r:=AU K) AL (pv 0) A9 (fun _ _=>rfl)))
   (A5 (A6 (YK (Jy CN (pv 2) (AN AJ (by rfl) T.len PySem.boot_len (A0 (pv 1) A3)) (DI _)) (Vo (Jy (Rx hu64) (Bh (r:=Ig K) Gi (pv 1) (Ba (pv 2)) (Ba (As Bk (pv 2) (AN AJ (by rfl) T.len PySem.boot_len (A0 (pv 3) A3))))) (pv 3) (DI _)))))))),?_⟩
  trivial
  refine ⟨_,hS,_,rfl,_,hS,_,rfl,_,.inr hc,_,rfl,?_⟩
  rw[List.length_map]
  by_cases c1:a<=c.length
  ·refine ifT (by omega) ⟨_,rfl,po,rfl,_,.inr ho,_,rfl,_,hc,fun q H1 e1 h1=>?_⟩
   rw[List.length_map,WL c1]at h1
   refine ⟨_,.tup h1 (Gd _),_,.tup (A1.tup e1 ho) (Gd _),Mj _,Mj _,?_⟩
   have:=k H1 e1
   have e:(VapatBase.spliced c a o n).isSome=PyData.eqv (.tuple (((c.drop a).take o.length).map pyN)) (.tuple (o.map pyN)):=by
    simp only[PyData.eqv,Ie]
    unfold VapatBase.spliced
    by_cases h:(c.drop a).take o.length=o
    ·rw[if_pos ⟨c1,h⟩,decide_eq_true h]
     rfl
    ·rw[if_neg (fun q=>h q.2),decide_eq_false h]
     rfl
   rw[e]at this
   exact this
  ·refine ifF (by omega) ?_
   have:=k H (A1.refl H)
   rw[show (VapatBase.spliced c a o n).isSome=false by unfold VapatBase.spliced;rw[if_neg (fun q=>c1 q.1)];rfl]at this
   exact this
abbrev IM:Stmt:=top 55
theorem LG:AC ["tokens","hunk","place"] ["tokens","hunk"] (A7 IM):=⟨rfl,rfl,rfl,by decide+kernel,rfl,by decide+kernel,by decide+kernel⟩
def LH (K:PySem.W.Frag):Sp:=fun vs H Q _=>∃(v u:V) (f a:Nat) (o n c:List Nat),vs=[u,v]/\An K H v (.hunk f a o n)/\E2 K H u c/\o.length<=1000/\n.length<=1000/\c.length<=1000/\(∃d,VapatBase.spliced c a o n=some d)/\∀H' r d,A1 H H'->VapatBase.spliced c a o n=some d->E2 K H' r d->Q r H'
theorem RD (T:Txt K mg) (D:AA K mg "with_hunk" IM ["tokens","hunk"]):OkF P w K mg base 1 "with_hunk" ["tokens","hunk"] (LH K):=by
 refine D.ok LG (fun vs H Q E h=>?_) (fun f cdv A outer s H vs Q E hr h=>?_)
 ·obtain ⟨v,u,f,a,o,n,c,rfl,_⟩:=h
  rfl
 ·obtain ⟨v,u,fl,a,o,n,c,rfl,⟨p,vo,vn,rfl,hS,⟨po,rfl,ho⟩,⟨pn,rfl,hn⟩⟩,⟨pc,rfl,hc⟩,lo,ln,lc,hfit,k⟩:=h
  obtain ⟨d,hsp⟩:=hfit
  obtain ⟨l,r,rfl,rfl,rfl⟩:=Ps.B1.1 hsp
  refine ⟨_,(A2 (AE (i:=2) LG.nd rfl (by nofun) (AF (r:=AU K) AL (pv 1) A9 (fun _ _=>rfl)))
   (A5 (A6 (As (r:=KR K) PQ (As (r:=KR K) PQ (Bh (r:=Ig K) Gi (pv 0) D9 (Ba (pv 2))) (AF (r:=AU K) AL (pv 1) A9 (fun _ _=>rfl))) (Bh (r:=Ig K) Gi (pv 0) (Ba (As Bk (pv 2) (AN AJ (by rfl) T.len PySem.boot_len (A0 (AF (r:=AU K) AL (pv 1) A9 (fun _ _=>rfl)) A3)))) D9))))),?_⟩
  trivial
  have ht:(l++(o++r)).take l.length=l:=by simp
  have hdr:(l++(o++r)).drop (l.length+o.length)=r:=by
   rw[<-List.append_assoc,List.drop_append_of_le_length (by simp)]
   simp
  simp only[List.length_append]at lc
  refine ⟨_,hS,_,rfl,_,rfl,_,hc,fun q1 H1 e1 h1=>?_⟩
  rw[WP (by simp),ht]at h1
  refine ⟨_,A1.tup e1 hS,_,rfl,pn,rfl,_,h1,_,A1.tup e1 hn,AX (by simp;omega),fun q2 H2 e2 h2=>?_⟩
  have e12:=e1.trans e2
  refine ⟨_,A1.tup e12 hS,_,rfl,po,rfl,_,.inr (A1.tup e12 ho),_,rfl,_,A1.tup e12 hc,fun q3 H3 e3 h3=>?_⟩
  rw[List.length_map,show ((l.length:Int)+(o.length:Int))=((l.length+o.length:Nat):Int) by omega,Ro,hdr]at h3
  refine ⟨_,A1.tup e3 h2,_,h3,AX (by simp;omega),fun q4 H4 e4 h4=>?_⟩
  refine k _ _ _ ((e12.trans e3).trans e4) hsp ⟨q4,rfl,?_⟩
  simpa using h4
abbrev Oj:Stmt:=top 54
theorem T4:AC ["step","tree","kind"] ["step","tree"] (A7 Oj):=⟨rfl,rfl,rfl,by decide+kernel,rfl,by decide+kernel,by decide+kernel⟩
def T5 (K:PySem.W.Frag):Sp:=fun vs H Q _=>∃(v u:V) (p:VapatBase.Step) (t:VapatBase.Tree),vs=[v,u]/\An K H v p/\treeV K H u t/\BX p/\Ps.Ok p/\(∀f c,VapatBase.fileIn t f=some c->c.length<=1000)/\∀H',A1 H H'->Q (.bl (VapatBase.applied t p).isSome) H'
theorem Wq (T:Txt K mg) (D:AA K mg "fits" Oj ["step","tree"]) (JM:OkF P w K mg base 1 "hunk_fits" ["hunk","tokens"] (LF K)):OkF P w K mg base 2 "fits" ["step","tree"] (T5 K):=by
 refine D.ok T4 (fun vs H Q E h=>?_) (fun f cdv A outer s H vs Q E hr h=>?_)
 ·obtain ⟨v,u,p,t,rfl,_⟩:=h
  rfl
 ·obtain ⟨v,u,p,t,rfl,hv,⟨a,kvs,rfl,hd,hR⟩,sp,op,hb,k⟩:=h
  have hu:=Ao hr
  have hv0:=hv
  obtain ⟨b,xs,rfl,hS⟩:=hv.seq
  refine ⟨_,(A2 (AE (i:=2) T4.nd rfl (by nofun) (AF (r:=AU K) AL (pv 0) A9 (fun _ _=>rfl)))
   (A2 (AH (AG (Ab (pv 2) (AI T.ADDED)))
   (A5 (A6 (Jz (Ci hu (AF (r:=AU K) AL (pv 0) A9 (fun _ _=>rfl)) (pv 1)))))
   AB)
   (A2 (AH (AG (Ci hu (AF (r:=AU K) AL (pv 0) A9 (fun _ _=>rfl)) (pv 1)))
   (A5 (A6 JA))
   AB)
   (A2 (AH (AG (Ab (pv 2) (AI T.HUNK)))
   (A5 (A6 (AD JM (hr.mono (by decide)) (A0 (pv 0) (A0 (C9 hu (pv 1) (AF (r:=AU K) AL (pv 0) A9 (fun _ _=>rfl)) (fun _ _=>rfl)) A3)))))
   AB)
   (A2 (AH (AG (Ab (pv 2) (AI T.REMOVED)))
   (A5 (A6 (Jz (Ab (AN AJ (by rfl) T.len PySem.boot_len (A0 (C9 hu (pv 1) (AF (r:=AU K) AL (pv 0) A9 (fun _ _=>rfl)) (fun _ _=>rfl)) A3)) A9))))
   AB)
   (A2 (AH (AG (Ab (pv 2) (AI T.MOVED)))
   (A5 (A6 (Jz (Ci hu (AF (r:=AU K) AL (pv 0) A9 (fun _ _=>rfl)) (pv 1)))))
   AB)
   (A5 (A6 JA)))))))),?_⟩
  trivial
  have kk:∀x:Bool,(VapatBase.applied t p).isSome=x->Q (.bl x) H:=fun x e=>by
   subst e
   exact k H (A1.refl H)
  have dg:B0 H a (iN (BD p)) (Ae kvs (Sum.inl ((BD p:Nat):Int))):=B0.k (k:=Sum.inl ((BD p:Nat):Int)) hd
  have isS:=hR.isSome (n:=BD p)
  refine ⟨_,hS,_,at0,_,rfl,?_⟩
  cases p with
  |add g=>
   refine ifT rfl ⟨_,hS,_,at1,_,dg,kk _ ?_⟩
   rw[isS]
   simp only[VapatBase.applied,BD]
   cases VapatBase.fileIn t g<;>rfl
  |hunk g pl o n=>
   refine ifF (by simp[Ap]) ⟨_,hS,_,at1,_,dg,?_⟩
   rw[isS]
   cases hf:VapatBase.fileIn t g with
   |none=>exact ifT (by simp[BD,hf]) (kk _ (by simp[VapatBase.applied,hf]))
   |some c=>
    obtain ⟨u,hu1,hu2⟩:=hR.some hf
    refine ifF (by simp[BD,hf]) ⟨_,rfl,ifT rfl ⟨_,hS,_,at1,u,?_,?_⟩⟩
    ·have:=dg
     rw[show Ae kvs (Sum.inl ((BD (.hunk g pl o n):Nat):Int))=some u from hu1]at this
     exact this
    ·refine ⟨_,u,g,pl,o,n,c,rfl,hv0,hu2,by have:=sp.1;omega,hb g c hf,fun H' e'=>?_⟩
     have:=k H' e'
     rw[show (VapatBase.applied t (.hunk g pl o n)).isSome=(VapatBase.spliced c pl o n).isSome by simp[VapatBase.applied,hf]]at this
     exact this
  |swap g x y=>
   refine ifF (by simp[Ap]) ⟨_,hS,_,at1,_,dg,?_⟩
   rw[isS]
   cases hf:VapatBase.fileIn t g with
   |none=>exact ifT (by simp[BD,hf]) (kk _ (by simp[VapatBase.applied,hf]))
   |some c=>
    exact ifF (by simp[BD,hf]) ⟨_,rfl,ifF (by simp[Ap]) ⟨_,rfl,ifF (by simp[Ap]) ⟨_,rfl,ifF (by simp[Ap]) (kk _ (by simp[VapatBase.applied,hf]))⟩⟩⟩
  |remove g=>
   refine ifF (by simp[Ap]) ⟨_,hS,_,at1,_,dg,?_⟩
   rw[isS]
   cases hf:VapatBase.fileIn t g with
   |none=>exact ifT (by simp[BD,hf]) (kk _ (by simp[VapatBase.applied,hf]))
   |some c=>
    obtain ⟨u,hu1,⟨pu,rfl,hu2⟩⟩:=hR.some hf
    refine ifF (by simp[BD,hf]) ⟨_,rfl,ifF (by simp[Ap]) ⟨_,rfl,ifT rfl ⟨_,hS,_,at1,_,?_,pu,rfl,_,.inr hu2,?_⟩⟩⟩
    ·have:=dg
     rw[show Ae kvs (Sum.inl ((BD (.remove g):Nat):Int))=some (V.ref pu) from hu1]at this
     exact this
    ·refine kk _ ?_
     rw[List.length_map]
     simp only[VapatBase.applied,hf]
     cases c with
     |nil=>simp
     |cons x c=>simp;omega
  |move g g2=>
   refine ifF (by simp[Ap]) ⟨_,hS,_,at1,_,dg,?_⟩
   rw[isS]
   cases hf:VapatBase.fileIn t g with
   |none=>exact ifT (by simp[BD,hf]) (kk _ (by simp[VapatBase.applied,hf]))
   |some c=>
    obtain ⟨pb,hb2,hS3⟩:=hv0
    cases hb2
    refine ifF (by simp[BD,hf]) ⟨_,rfl,ifF (by simp[Ap]) ⟨_,rfl,ifF (by simp[Ap]) ⟨_,rfl,ifT rfl ⟨_,hS3,_,rfl,_,B0.k (k:=Sum.inl ((g2:Nat):Int)) hd,?_⟩⟩⟩⟩
    refine kk _ ?_
    rw[hR.isSome (n:=g2)]
    simp only[VapatBase.applied,hf]
    cases VapatBase.fileIn t g2<;>rfl
end
end
section
theorem NI {kvs:List (Key×V)} {k:Key}:(Ae kvs k).isSome=true↔k∈kvs.map (·.1):=by
 constructor
 ·intro h
  cases e:Ae kvs k with
  |none=>rw[e]at h;cases h
  |some v=>exact MF e
 ·intro h
  cases e:Ae kvs k with
  |none=>exact absurd h (Rv e)
  |some v=>rfl
theorem O9 {t:VapatBase.Tree} {n:Nat}:(VapatBase.fileIn t n).isSome=true↔n∈t.map (fun x=>x.1):=by
 induction t with
 |nil=>simp[VapatBase.fileIn]
 |cons x t ih=>
  rw[Ps.Ag]
  by_cases h:x.1=n
  ·simp[h]
  ·rw[if_neg h,ih]
   simp[Ne.symm h]
theorem Az.keys {K:PySem.W.Frag} {H:Hp} {kvs:List (Key×V)} {t:VapatBase.Tree} (h:Az K H kvs t) (ht:Ps.Srt t):(kvs.map (·.1)).Perm (t.map fun x=>(Sum.inl (x.1:Int):Key)):=by
 have hnd:(t.map fun x=>(Sum.inl (x.1:Int):Key)).Nodup:=by
  have h1:(t.map fun x=>x.1).Nodup:=List.Pairwise.imp (fun h=>Nat.ne_of_lt h) ht
  have:(t.map fun x=>(Sum.inl (x.1:Int):Key))=(t.map fun x=>x.1).map fun n=>(Sum.inl ((n:Nat):Int):Key):=by rw[List.map_map];rfl
  rw[this]
  exact List.Pairwise.map _ (fun a b hab e=>hab (by have:=Sum.inl.inj e;omega)) h1
 refine (List.perm_ext_iff_of_nodup h.1 hnd).2 fun k=>?_
 constructor
 ·intro hk
  obtain ⟨n,rfl⟩:=h.2.1 k hk
  have h1:(Ae kvs (Sum.inl (n:Int))).isSome=true:=NI.2 hk
  rw[h.isSome]at h1
  have:=O9.1 h1
  obtain ⟨x,hx,rfl⟩:=List.mem_map.1 this
  exact List.mem_map.2 ⟨x,hx,rfl⟩
 ·intro hk
  obtain ⟨x,hx,rfl⟩:=List.mem_map.1 hk
  refine NI.1 ?_
  rw[h.isSome]
  exact O9.2 (List.mem_map.2 ⟨x,hx,rfl⟩)
theorem Az.len {K:PySem.W.Frag} {H:Hp} {kvs:List (Key×V)} {t:VapatBase.Tree} (h:Az K H kvs t) (ht:Ps.Srt t):kvs.length=t.length:=by
 have:=(h.keys ht).length_eq
 simpa using this
theorem Fd {kvs:List (Key×V)} {k:Key} {v:V} (h:k∈kvs.map (·.1)):(BB kvs k v).map (·.1)=kvs.map (·.1):=by
 unfold BB
 rw[if_pos (by rw[Dt];exact NI.2 h),List.map_map]
 apply List.map_congr_left
 intro p _
 simp only[Function.comp]
 split<;>rfl
theorem Eh {kvs:List (Key×V)} {k:Key} {v:V} (h:k∉kvs.map (·.1)):(BB kvs k v).map (·.1)=kvs.map (·.1)++[k]:=by
 rw[Wb v (by
  cases e:Ae kvs k with
  |none=>rfl
  |some u=>exact absurd (MF e) h)]
 simp
theorem Az.put {K:PySem.W.Frag} {H:Hp} {kvs:List (Key×V)} {t t':VapatBase.Tree} {f:Nat} {u:V} {c:List Nat} (h:Az K H kvs t) (hc:E2 K H u c) (hf:∀g,VapatBase.fileIn t' g=if g=f then Option.some c else VapatBase.fileIn t g):
  Az K H (BB kvs (Sum.inl (f:Int)) u) t':=by
 refine ⟨?_,?_,fun n=>?_⟩
 ·by_cases hk:(Sum.inl (f:Int):Key)∈kvs.map (·.1)
  ·rw[Fd hk];exact h.1
  ·rw[Eh hk];exact TD h.1 hk
 ·intro k hk
  by_cases hk2:(Sum.inl (f:Int):Key)∈kvs.map (·.1)
  ·rw[Fd hk2]at hk;exact h.2.1 k hk
  ·rw[Eh hk2]at hk
   rcases List.mem_append.1 hk with hk|hk
   ·exact h.2.1 k hk
   ·simp at hk
    exact ⟨f,hk⟩
 ·rw[hf n,FZ]
  by_cases e:n=f
  ·subst e
   simp only[if_true]
   exact ⟨u,rfl,hc⟩
  ·rw[if_neg e,if_neg (fun q=>e (by have:=Sum.inl.inj q;omega))]
   exact h.2.2 n
theorem AQ.dK {K:PySem.W.Frag} {H:Hp} {D:Addr} {kvs:List (Key×V)} {u:HO} (h:H D=some (.dK kvs)):AQ K H (L2.upd H D u):=AQ.upd h (fun _ e=>nomatch e) (fun _ _ e=>nomatch e)
theorem Vr (kvs:List (Key×V)) (k j:Key):Ae (C6 kvs k) j=if j=k then none else Ae kvs j:=by
 induction kvs with
 |nil=>simp[C6,Ae]
 |cons p kvs ih=>
  by_cases e:p.1=k
  ·rw[Pw e,ih]
   by_cases e2:j=k
   ·simp[e2]
   ·rw[if_neg e2,if_neg e2,C0 (fun q=>e2 (by rw[<-q,e]))]
  ·rw[QC e]
   by_cases e3:p.1=j
   ·rw[CJ e3,CJ e3,if_neg (fun q=>e (by rw[e3,q]))]
   ·rw[C0 e3,C0 e3,ih]
theorem Az.drop {K:PySem.W.Frag} {H:Hp} {kvs:List (Key×V)} {t t':VapatBase.Tree} {f:Nat} (h:Az K H kvs t) (hf:∀g,VapatBase.fileIn t' g=if g=f then Option.none else VapatBase.fileIn t g):
  Az K H (C6 kvs (Sum.inl (f:Int))) t':=by
 refine ⟨NS h.1,?_,fun n=>?_⟩
 ·intro k hk
  obtain ⟨p,hp,rfl⟩:=List.mem_map.1 hk
  exact h.2.1 _ (List.mem_map.2 ⟨p,Pe hp,rfl⟩)
 ·rw[hf n,Vr]
  by_cases e:n=f
  ·subst e
   simp
  ·rw[if_neg e,if_neg (fun q=>e (by have:=Sum.inl.inj q;omega))]
   exact h.2.2 n
section
variable {P:Program} {w:World} {K:PySem.W.Frag} {mg:Str->Option Value} {base:Heap}
abbrev K6:Stmt:=top 56
theorem Hm:AC ["step","tree","changed","kind","name"] ["step","tree"] (A7 K6):=⟨rfl,rfl,rfl,by decide+kernel,rfl,by decide+kernel,by decide+kernel⟩
def Nh (K:PySem.W.Frag):Sp:=fun vs H Q _=>∃(v u:V) (p:VapatBase.Step) (t t':VapatBase.Tree),vs=[v,u]/\An K H v p/\treeV K H u t/\BX p/\Ps.Ok p/\Ps.Srt t/\t.length<=100/\(∀f c,VapatBase.fileIn t f=some c->c.length<=900)/\VapatBase.applied t p=some t'/\
 ∀H' r,A1 H H'->treeV K H' r t'->Q r H'
theorem Ti (T:Txt K mg) (D:AA K mg "applied" K6 ["step","tree"]) (JN:OkF P w K mg base 1 "with_hunk" ["tokens","hunk"] (LH K)) (ER:OkF P w K mg base 1 "swapped" ["tokens","swap"] (K3 K)):OkF P w K mg base 2 "applied" ["step","tree"] (Nh K):=by
 refine D.ok Hm (fun vs H Q E h=>?_) (fun f cdv A outer s H vs Q E hr h=>?_)
 ·obtain ⟨v,u,p,t,t',rfl,_⟩:=h
  rfl
 ·obtain ⟨v,u,p,t,t',rfl,hv,⟨a,kvs,rfl,hd,hR⟩,sp,op,ht,hlen,hb,hap,k⟩:=h
  have hu:=Ao hr
  have hv0:=hv
  obtain ⟨b,xs,rfl,hS⟩:=hv.seq
  have lk:=hR.len ht
  refine ⟨_,(A2 (AE (i:=2) Hm.nd rfl (by nofun) (Cg XA (by rfl) T.dict PyProof.Rows.boot_dict (A0 (pv 1) A3)))
   (A2 (AE (i:=3) Hm.nd rfl (by nofun) (AF (r:=AU K) AL (pv 0) A9 (fun _ _=>rfl)))
   (A2 (AE (i:=4) Hm.nd rfl (by nofun) (AF (r:=AU K) AL (pv 0) A9 (fun _ _=>rfl)))
   (A2 (AH (AG (Ab (pv 3) (AI T.HUNK)))
   (A5 (DZ hu (pv 2) (pv 4) (AD JN (hr.mono (by decide)) (A0 (C9 hu (pv 1) (pv 4) (fun _ _=>rfl)) (A0 (pv 0) A3))) rfl))
   AB)
   (A2 (AH (AG (Ab (pv 3) (AI T.SWAP)))
   (A5 (DZ hu (pv 2) (pv 4) (AD ER (hr.mono (by decide)) (A0 (C9 hu (pv 1) (pv 4) (fun _ _=>rfl)) (A0 (pv 0) A3))) rfl))
   AB)
   (A2 (AH (AG (Ab (pv 3) (AI T.ADDED)))
   (A5 (DZ hu (pv 2) (pv 4) (BL A3) rfl))
   AB)
   (A2 (AH (AG (Ab (pv 3) (AI T.REMOVED)))
   (A5 (BE (NG (pv 2) (pv 4) ⟨rfl,rfl,rfl,rfl⟩)))
   AB)
   (A2 (AH (AG (Ab (pv 3) (AI T.MOVED)))
   (A5 (DZ hu (pv 2) (AF (r:=AU K) AL (pv 0) A9 (fun _ _=>rfl)) (NG (pv 2) (pv 4) ⟨rfl,rfl,rfl,rfl⟩) rfl))
   AB)
   (A5 (A6 (pv 2))))))))))),?_⟩
  trivial
  refine ⟨_,hd,fun c hc=>?_⟩
  have e1:A1 H (upd H c (.dK kvs)):=A1.new hc
  have hS1:=A1.tup e1 hS
  have hR1:Az K (upd H c (.dK kvs)) kvs t:=hR.t (.of e1)
  have d1:=e1 _ _ hd
  refine ⟨_,hS1,_,at0,_,hS1,_,at1,_,rfl,?_⟩
  have hkl:kvs.length<sizeLine:=szl (by omega)
  cases p with
  |hunk g pl o n=>
   simp only[VapatBase.applied,Option.bind_eq_some_iff,Option.map_eq_some_iff]at hap
   obtain ⟨c0,hf,d,hsp,rfl⟩:=hap
   obtain ⟨u,hu1,hu2⟩:=hR1.some hf
   refine ifT rfl ⟨u,?_,_,u,g,pl,o,n,c0,rfl,hv0.same e1,hu2,by have:=sp.1;omega,by have:=sp.2;omega,by have:=hb g c0 hf;omega,⟨d,hsp⟩,fun H1 r d' e2 hsp' hr'=>?_⟩
   ·have:=B0.k (k:=Sum.inl ((g:Nat):Int)) d1
    rw[hu1]at this
    exact this
   ·rw[hsp]at hsp'
    cases hsp'
    have hc1:=e2 _ _ (A4 (H:=H) (a:=c) (o:=.dK kvs))
    have t1:∀o',AQ K H1 (upd H1 c o'):=fun o'=>AQ.dK hc1
    refine ⟨_,FW.k (k:=Sum.inl ((g:Nat):Int)) hc1 hkl,_,rfl,ifF (by simp[Ap]) ⟨_,rfl,ifF (by simp[Ap]) ⟨_,rfl,ifF (by simp[Ap]) ⟨_,rfl,ifF (by simp[Ap]) (k _ _ (A1.put (e1.trans e2) hc) ⟨c,_,rfl,A4,?_⟩)⟩⟩⟩⟩
    exact Az.put (hR1.t ((AQ.of e2).trans (t1 _))) (hr'.t (t1 _)) (fun g'=>Ps.BP g d t g')
  |swap g x y=>
   simp only[VapatBase.applied,Option.map_eq_some_iff]at hap
   obtain ⟨c0,hf,rfl⟩:=hap
   obtain ⟨u,hu1,hu2⟩:=hR1.some hf
   refine ifF (by simp[Ap]) ⟨_,rfl,ifT rfl ⟨u,?_,u,_,c0,g,x,y,rfl,hu2,by have:=hb g c0 hf;omega,hv0.same e1,fun H1 r e2 hr'=>?_⟩⟩
   ·have:=B0.k (k:=Sum.inl ((g:Nat):Int)) d1
    rw[hu1]at this
    exact this
   ·have hc1:=e2 _ _ (A4 (H:=H) (a:=c) (o:=.dK kvs))
    have t1:∀o',AQ K H1 (upd H1 c o'):=fun o'=>AQ.dK hc1
    refine ⟨_,FW.k (k:=Sum.inl ((g:Nat):Int)) hc1 hkl,_,rfl,ifF (by simp[Ap]) ⟨_,rfl,ifF (by simp[Ap]) ⟨_,rfl,ifF (by simp[Ap]) (k _ _ (A1.put (e1.trans e2) hc) ⟨c,_,rfl,A4,?_⟩)⟩⟩⟩
    exact Az.put (hR1.t ((AQ.of e2).trans (t1 _))) (hr'.t (t1 _)) (fun g'=>Ps.BP g _ t g')
  |add g=>
   simp only[VapatBase.applied]at hap
   split at hap
   next hf=>
    cases hap
    refine ifF (by simp[Ap]) ⟨_,rfl,ifF (by simp[Ap]) ⟨_,rfl,ifT rfl ⟨AX (by omega),fun q hq=>?_⟩⟩⟩
    have e2:A1 (upd H c (.dK kvs)) (upd (upd H c (.dK kvs)) q (.tup [])):=A1.new hq
    have hc1:=e2 _ _ (A4 (H:=H) (a:=c) (o:=.dK kvs))
    have t1:∀o',AQ K _ (upd (upd (upd H c (.dK kvs)) q (.tup [])) c o'):=fun o'=>AQ.dK hc1
    refine ⟨_,FW.k (k:=Sum.inl ((g:Nat):Int)) hc1 hkl,_,rfl,ifF (by simp[Ap]) ⟨_,rfl,ifF (by simp[Ap]) (k _ _ (A1.put (e1.trans e2) hc) ⟨c,_,rfl,A4,?_⟩)⟩⟩
    exact Az.put (hR1.t ((AQ.of e2).trans (t1 _))) (E2.t (H:=upd (upd H c (.dK kvs)) q (.tup [])) (l:=[]) (t1 _) ⟨q,rfl,SqT.of A4⟩) (fun g'=>Ps.BP g [] t g')
   ·cases hap
  |remove g=>
   simp only[VapatBase.applied]at hap
   split at hap
   next hf=>
    cases hap
    obtain ⟨u,hu1,hu2⟩:=hR1.some hf
    refine ifF (by simp[Ap]) ⟨_,rfl,ifF (by simp[Ap]) ⟨_,rfl,ifF (by simp[Ap]) ⟨_,rfl,ifT rfl ⟨.inl ⟨_,.inl A4⟩,_,A4,Sum.inl ((g:Nat):Int),rfl,⟨u,hu1⟩,_,rfl,ifF (by simp[Ap]) ?_⟩⟩⟩⟩
    rw[C7]
    exact k _ _ (A1.new hc) ⟨c,_,rfl,A4,Az.drop (hR.t (.of (A1.new hc))) (fun g'=>Ps.DP g t g')⟩
   ·cases hap
  |move g g2=>
   simp only[VapatBase.applied]at hap
   split at hap
   next c0 hf hf2=>
    cases hap
    obtain ⟨u,hu1,hu2⟩:=hR1.some hf
    obtain ⟨b',hb2,hS3⟩:=hv0
    cases hb2
    refine ifF (by simp[Ap]) ⟨_,rfl,ifF (by simp[Ap]) ⟨_,rfl,ifF (by simp[Ap]) ⟨_,rfl,ifF (by simp[Ap]) ⟨_,rfl,ifT rfl ⟨.inl ⟨_,.inl A4⟩,_,A4,Sum.inl ((g:Nat):Int),rfl,u,hu1,?_⟩⟩⟩⟩⟩
    rw[C7]
    have e3:A1 H (upd H c (.dK (C6 kvs (Sum.inl ((g:Nat):Int))))):=A1.new hc
    refine ⟨_,A1.tup e3 hS3,_,rfl,_,FW.k (k:=Sum.inl ((g2:Nat):Int)) A4 (Nat.lt_of_le_of_lt (NP _ _) hkl),?_⟩
    rw[C7]
    have t1:AQ K (upd H c (.dK kvs)) (upd H c (.dK (BB (C6 kvs (Sum.inl ((g:Nat):Int))) (Sum.inl ((g2:Nat):Int)) u))):=by
     have:=AQ.dK (K:=K) (u:=.dK (BB (C6 kvs (Sum.inl ((g:Nat):Int))) (Sum.inl ((g2:Nat):Int)) u)) (A4 (H:=H) (a:=c) (o:=.dK kvs))
     rw[C7]at this
     exact this
    exact k _ _ (A1.new hc) ⟨c,_,rfl,A4,Az.put (t:=VapatBase.dropFile g t) (Az.drop (hR1.t t1) (fun g'=>Ps.DP g t g')) (hu2.t t1) (fun g'=>Ps.BP g2 c0 _ g')⟩
   ·cases hap
end
end
section
structure Wj (K:PySem.W.Frag) (mg:Str->Option Value):Prop extends Txt K mg where
 MOST_FILES:∃t,mg "MOST_FILES"=some (.int 6 t)
 MOST_TREE_TOKENS:∃t,mg "MOST_TREE_TOKENS"=some (.int 12 t)
theorem Rz (p:VapatBase.Step):BX p->(match p with
  |.hunk _ _ o n=>o.length<=8/\n.length<=8
  |_=>True):=by
 cases p<;>first|exact fun h=>h|exact fun _=>True.intro
theorem NM:∀{ks:List Key},(∀k∈ks,∃n:Nat,k=Sum.inl (n:Int))->∃ns:List Int,ks=ns.map Sum.inl
 |[],_=>⟨[],rfl⟩
 |k::ks,h=>by
  obtain ⟨n,rfl⟩:=h k (List.mem_cons_self ..)
  obtain ⟨ns,rfl⟩:=NM fun j hj=>h j (List.mem_cons_of_mem _ hj)
  exact ⟨n::ns,rfl⟩
def unK:Key->Int
 |.inl n=>n
 |.inr _=>0
theorem unl (l:List Int):(l.map (Sum.inl:Int->Key)).map unK=l:=by
 rw[List.map_map]
 exact List.map_id' l
theorem WF {l m:List Int} (h:(l.map (Sum.inl:Int->Key)).Perm (m.map Sum.inl)):l.Perm m:=by
 have:=h.map unK
 rw[unl,unl]at this
 exact this
theorem Lj:∀{t:VapatBase.Tree} {B:Nat},(∀x∈t,x.2.length<=B)->(t.flatMap (fun x=>((x.1:Nat):Int)::VapatBase.listed x.2)).length<=t.length*(B+2)
 |[],_,_=>by simp
 |x::t,B,h=>by
  have h1:=Lj (t:=t) (B:=B) fun y hy=>h y (List.mem_cons_of_mem _ hy)
  have h2:=h x (List.mem_cons_self ..)
  have h3:(VapatBase.listed x.2).length=x.2.length+1:=by simp[VapatBase.listed,VapatBase.ints]
  rw[List.flatMap_cons,List.length_append,List.length_cons,List.length_cons,h3,Nat.add_mul]
  omega
section
variable {P:Program} {w:World} {K:PySem.W.Frag} {mg:Str->Option Value} {base:Heap}
abbrev K7:Stmt:=top 64
theorem Hn:AC ["tree","row","name","step"] ["tree","row"] (A7 K7):=⟨rfl,rfl,rfl,by decide+kernel,rfl,by decide+kernel,by decide+kernel⟩
def Ho (K:PySem.W.Frag):Sp:=fun vs H Q _=>∃(u v:V) (t t':VapatBase.Tree) (r:Vapatc.Row),vs=[u,v]/\treeV K H u t/\BA K H v r/\Good r/\Ps.Srt t/\Ps.TB 6 12 t/\r.length<=60/\Ps.app t r=some t'/\
 ∀H' x,A1 H H'->treeV K H' x t'->Q x H'
theorem Tj (T:Txt K mg) (D:AA K mg "outcome" K7 ["tree","row"]) (LI:OkF P w K mg base 2 "applied" ["step","tree"] (Nh K)):OkF P w K mg base 3 "outcome" ["tree","row"] (Ho K):=by
 refine D.ok Hn (fun vs H Q E h=>?_) (fun f cdv A outer s H vs Q E hr h=>?_)
 ·obtain ⟨u,v,t,t',r,rfl,_⟩:=h
  rfl
 ·obtain ⟨u,v,t,t',r,rfl,hu,⟨a,xs,rfl,hL,hp⟩,gr,ht,hb,hlen,hap,k⟩:=h
  have lx:xs.length=r.length:=Paired.length hp
  refine ⟨_,(A2 (BH PassesOwn.never rfl (B4 (pv 1)) (Ga (K:=K) (n:=2) rfl rfl (C2 (AZ (i:=2) Hn.nd rfl (by nofun)) (C2 (AZ (i:=3) Hn.nd rfl (by nofun)) Gc)))
   (A5 (AE (i:=0) Hn.nd rfl (by nofun) (AD LI (hr.mono (by decide)) (A0 (pv 3) (A0 (pv 0) A3))))))
   (A5 (A6 (pv 0)))),?_⟩
  trivial
  refine ⟨⟨_,SqL.of hL⟩,?_⟩
  refine FX (H0:=H) (Ay (SqL.of hL)) (fun i σ H'=>A1 H H'/\∃(u:V) (ti:VapatBase.Tree) (o1 o2:Option V),σ=[some u,some (.ref a),o1,o2]/\Ps.app t (r.take i)=some ti/\treeV K H' u ti/\Ps.Srt ti/\Ps.TB (6+i) (12+8*i) ti)
   ⟨A1.refl H,u,t,none,none,rfl,Ps.MG t,hu,ht,hb⟩ (fun i σ H' h=>h.1) ?_ ?_
  ·rintro i x σ H' hx ⟨e,u,ti,o1,o2,rfl,hai,hui,sti,bti⟩
   obtain ⟨q,hq,hxq⟩:=By hp hx
   obtain ⟨b,v,rfl,hS,hv⟩:=hxq.same e
   have gq:=gr q (List.mem_of_getElem? hq)
   have hi:i<r.length:=by
    rcases Nat.lt_or_ge i r.length with h|h
    ·exact h
    ·rw[List.getElem?_eq_none h]at hq;cases hq
   have hsp:r=r.take i++q::r.drop (i+1):=by
    have:=List.getElem?_eq_some_iff.1 hq
    obtain ⟨h1,h2⟩:=this
    rw[<-h2,List.getElem_cons_drop,List.take_append_drop]
   rw[hsp]at hap
   obtain ⟨v1,h1,h2⟩:=Ps.BO.1 hap
   rw[hai]at h1
   cases h1
   obtain ⟨v2,h3,h4⟩:=Ps.BR.1 h2
   have hai2:Ps.app t (r.take (i+1))=some v2:=by
    rw[Ai hq]
    exact Ps.BO.2 ⟨ti,hai,Ps.BR.2 ⟨v2,h3,Ps.MG v2⟩⟩
   trivial
   refine ⟨_,hS,rfl,_,_,rfl,_,_,rfl,rfl,?_⟩
   refine ⟨v,u,q.step,ti,v2,rfl,hv,hui,gq.2,gq.1,sti,by have:=bti.1;omega,fun f c hf=>by have:=bti.2 f c hf;omega,h3,fun H1 x e1 h1=>?_⟩
   refine ⟨e.trans e1,v2,hai2,h1,(Ps.Fb h3 sti).2,?_⟩
   exact Ps.Te (Rz _ gq.2) h3 bti
  ·rintro σ H' ⟨e,u,ti,o1,o2,rfl,hai,hui,sti,bti⟩
   rw[lx,List.take_length,hap]at hai
   cases hai
   trivial
   exact k _ _ e hui
abbrev HK:Stmt:=top 52
theorem HL:AC ["tree","numbers","name"] ["tree"] (A7 HK):=⟨rfl,rfl,rfl,by decide+kernel,rfl,by decide+kernel,by decide+kernel⟩
def HM (K:PySem.W.Frag):Sp:=fun vs H Q _=>∃(u:V) (t:VapatBase.Tree),vs=[u]/\treeV K H u t/\Ps.Srt t/\Ps.TB 60 900 t/\∀H' a,A1 H H'->H a=none->H' a=some (.lst ((VapatBase.flatTree t).map V.int))->Q (.ref a) H'
theorem QJ (T:Txt K mg) (D:AA K mg "write_tree" HK ["tree"]) (CG:OkF P w K mg base 1 "write_tokens" ["tokens"] (Fh K)):OkF P w K mg base 2 "write_tree" ["tree"] (HM K):=by
 refine D.ok HL (fun vs H Q E h=>?_) (fun f cdv A outer s H vs Q E hr h=>?_)
 ·obtain ⟨u,t,rfl,_⟩:=h
  rfl
 ·obtain ⟨u,t,rfl,⟨a,kvs,rfl,hd,hR⟩,ht,hb,k⟩:=h
  have hu:=Ao hr
  have lk:=hR.len ht
  refine ⟨_,(A2 (AE (i:=1) HL.nd rfl (by nofun) (Af (A0 (AN HB (by rfl) T.len PySem.boot_len (A0 (pv 0) A3)) A3)))
   (A2 (BH PassesOwn.never rfl (B4 (AN (Oe rfl) (by rfl) T.sorted PyProof.Rows.boot_sorted (A0 (pv 0) A3))) (AZ (i:=2) HL.nd rfl (by nofun))
   (A2 (BE (Es PySem.F.plainAttrs_list PySem.F.slot_list_append PySem.F.type_list_append Dk (pv 1) (A0 (pv 2) A3)))
    (A5 (BE (Es PySem.F.plainAttrs_list PySem.F.slot_list_extend PySem.F.type_list_extend Lg (pv 1) (A0 (AD CG (hr.mono (by decide)) (A0 (C9 hu (pv 0) (pv 2) (fun _ _=>rfl)) A3)) A3))))))
   (A5 (A6 (pv 1))))),?_⟩
  trivial
  obtain ⟨ns0,hn0⟩:=NM hR.2.1
  have hpm:(t.map fun x=>((x.1:Nat):Int)).Perm ns0:=by
   have h1:=hR.keys ht
   rw[hn0]at h1
   exact WF (by rw[List.map_map];exact h1.symm)
  refine ⟨_,hd,AX (by omega),fun p hp=>⟨_,A1.new hp _ _ hd,ns0,hn0,?_,fun ns' q pm pw hq=>⟨⟨_,SqL.of A4⟩,?_⟩⟩⟩
  ·have:=hpm.length_eq
   rw[<-this,List.length_map]
   have:=hb.1
   omega
  have en:ns'=t.map fun x=>((x.1:Nat):Int):=by
   refine List.Perm.eq_of_pairwise (le:=fun a b=>a<=b) ?_ pw ?_ (pm.trans hpm.symm)
   ·intro a b _ _ h1 h2;omega
   ·have:((t.map fun x=>x.1).map fun n=>((n:Nat):Int)).Pairwise (·<=·):=List.Pairwise.map _ (fun a b h=>by omega) ht
    rw[List.map_map]at this
    exact this
  subst en
  have hpq:p≠q:=by
   rintro rfl
   rw[A4]at hq
   cases hq
  have hq0:H q=none:=by
   rw[A8 hpq.symm]at hq
   exact hq
  have e0:A1 H (upd H q (HO.lst ((t.map fun x=>((x.1:Nat):Int)).map V.int))):=A1.new hq0
  have hp0:(upd H q (HO.lst ((t.map fun x=>((x.1:Nat):Int)).map V.int))) p=none:=by rw[A8 hpq];exact hp
  refine FX (H0:=upd H q (HO.lst ((t.map fun x=>((x.1:Nat):Int)).map V.int))) (Ay (SqL.of A4)) (fun i σ H'=>A1 (upd H q (HO.lst ((t.map fun x=>((x.1:Nat):Int)).map V.int))) H'/\∃(o1:Option V),σ=[some (.ref a),some (.ref p),o1]/\H' p=some (.lst ((((t.length:Nat):Int)::(t.take i).flatMap (fun x=>((x.1:Nat):Int)::VapatBase.listed x.2)).map V.int)))
   ⟨?_,none,rfl,by rw[A8 hpq,A4,lk];rfl⟩ (fun i σ H' h=>h.1) ?_ ?_
  ·intro b u hb
   by_cases e:b=q
   ·subst e
    rw[A4]at hb ⊢
    exact hb
   ·rw[A8 e]at hb ⊢
    exact A1.new hp b u hb
  ·rintro i x σ H' hx ⟨e,o1,rfl,hy⟩
   rw[List.map_map]at hx
   rw[List.getElem?_map]at hx
   obtain ⟨y,hy1,rfl⟩:=Option.map_eq_some_iff.1 hx
   have hf:VapatBase.fileIn t y.1=some y.2:=Ps.J7 ht (List.mem_of_getElem? hy1)
   have hR':Az K H' kvs t:=hR.t (.of (e0.trans e))
   obtain ⟨u,hu1,hu2⟩:=hR'.some hf
   have t1:∀o,AQ K H' (upd H' p (.lst o)):=fun o=>AQ.lst hy
   have hdp:∀o,(upd H' p o) a=some (.dK kvs):=fun o=>by
    rw[A8 (AV hd hp)]
    exact e _ _ (e0 _ _ hd)
   have lt1:=Lj (t:=t.take i) (B:=900) fun z hz=>hb.2 z.1 z.2 (Ps.J7 ht (List.mem_of_mem_take hz))
   have lt2:(t.take i).length<=60:=by rw[List.length_take];have:=hb.1;omega
   have lt3:=Nat.mul_le_mul_right 902 lt2
   have lt4:=hb.2 _ _ hf
   trivial
   refine ⟨.inl ⟨rfl,_,SqL.of hy⟩,_,hy,szl (by rw[List.length_map,List.length_cons];omega),.inl ⟨rfl,_,SqL.of A4⟩,u,?_,u,y.2,rfl,hu2.t (t1 _),by omega,fun H1 c e2 h1=>⟨c,rfl,_,e2 _ _ A4,_,h1,AX ?_,?_,?_⟩⟩
   ·have:=B0.k (k:=Sum.inl ((y.1:Nat):Int)) (hdp (HO.lst ((((t.length:Nat):Int)::(t.take i).flatMap (fun x=>((x.1:Nat):Int)::VapatBase.listed x.2)).map V.int++[(V.int∘fun x=>↑x.fst) y])))
    rw[hu1]at this
    exact this
   ·have l9:(VapatBase.listed y.2).length=y.2.length+1:=by simp[VapatBase.listed,VapatBase.ints]
    simp only[List.length_map,List.length_cons,List.length_append,List.length_nil,l9]
    omega
   ·intro z o hz
    rw[A8 (AV hz hp0)]
    refine e2 _ _ ?_
    rw[A8 (AV hz hp0)]
    exact e _ _ hz
   ·rw[A4,Ai hy1]
    simp
  ·rintro σ H' ⟨e,o1,rfl,hy⟩
   rw[List.length_map,List.length_map,List.take_length]at hy
   trivial
   exact k _ p (e0.trans e) hp hy
end
end
end Pz
section
namespace Ps
open VapatBase
open Vapatc (Patch Row)
open Vapate (Known Names find blockOf endsOf needsOf)
open Pz (Good CM BX)
theorem Vq:∀{r:Row} {t u:Tree} {L B:Nat},Good r->app t r=some u->TB L B t->TB (L+r.length) (B+8*r.length) u
 |[],t,u,L,B,_,h,ht=>by
  rw[MG]at h
  cases h
  exact ht
 |p::r,t,u,L,B,g,h,ht=>by
  obtain ⟨v,h1,h2⟩:=BR.1 h
  rw[Good.cons]at g
  have:=Vq g.2 h2 (Te (Pz.Rz _ g.1.2) h1 ht)
  refine this.mono ?_ ?_
  ·simp only[List.length_cons];omega
  ·simp only[List.length_cons];omega
theorem M3 {t:Tree} {L B:Nat} (hs:Srt t) (h:TB L B t):(flatTree t).length<=1+L*(B+2):=by
 unfold flatTree
 rw[List.length_cons]
 have h1:=Pz.Lj (t:=t) (B:=B) fun x hx=>h.2 x.1 x.2 (J7 hs hx)
 have h2:=Nat.mul_le_mul_right (B+2) h.1
 have h3:(t.flatMap fun x=>VapatBase.int x.1::listed x.2).length<=t.length*(B+2):=h1
 omega
theorem Bn.outcome {t:Tree} {s:Vapate.State} (T:Bn t s) {a:Names} (na:NOk s.known a):∃u,Vapate.outcome t s.known a=some u/\app t (Vapate.rowOf s.known a)=some u/\Srt u/\TB 18 108 u:=by
 obtain ⟨u,h1,h2⟩:=SQ T.srt T.I na.kn
 have R:=DO T.srt T.I na.kn
 have hl:=T.I.row_len R.con
 refine ⟨u,h1,h2,MK T.srt h2,(Vq R.good h2 T.tb).mono (by omega) (by omega)⟩
theorem Bn.row_len {t:Tree} {s:Vapate.State} (T:Bn t s) {a:Names} (na:NOk s.known a):(Vapate.rowOf s.known a).length<=12:=T.I.row_len (DO T.srt T.I na.kn).con
theorem JU {r:Row} (g:Good r) (h:r.length<=12):(Vapatc.rowTold r).length<=373:=by
 have:=Pz.Im g
 have h2:(Vapatc.rowTold r).length=(r.flatMap (fun p=>((p.name:Nat):Int)::VapatBase.flatStep p.step)).length+1:=rfl
 omega
theorem OJ (l:List Nat):(Vapate.listed l).length=l.length+1:=by simp[Vapate.listed,Vapate.ints]
theorem Ec {α:Type} (f g:α->Int):∀l:List α,(l.flatMap fun x=>[f x,g x]).length=2*l.length
 |[]=>rfl
 |x::l=>by
  rw[List.flatMap_cons,List.length_append,Ec f g l]
  simp only[List.length_cons,List.length_nil]
  omega
theorem OE {α β:Type} {f:α->List β} {B:Nat}:∀{l:List α},(∀x∈l,(f x).length<=B)->(l.flatMap f).length<=l.length*B
 |[],_=>by simp
 |x::l,h=>by
  rw[List.flatMap_cons,List.length_append,List.length_cons,Nat.add_mul]
  have:=OE (l:=l) fun y hy=>h y (List.mem_cons_of_mem _ hy)
  have:=h x (List.mem_cons_self ..)
  omega
theorem Kt {ks:List Known} {a:Names} (h:a.length<=12):(Vapate.conflicts ks a).length<=144:=by
 unfold Vapate.conflicts
 have hl:(Vapate.live ks a).length<=12:=Nat.le_trans (List.length_filter_le _ _) h
 have:=OE (B:=12) (l:=Vapate.live ks a) (f:=fun n=>(((Vapate.live ks a).filter fun m=>decide (n<m)).filter (Vapate.conflict ks n)).map fun m=>(n,m)) (by
  intro n _
  simp only[List.length_map]
  exact Nat.le_trans (List.length_filter_le _ _) (Nat.le_trans (List.length_filter_le _ _) hl))
 simp only
 omega
theorem Bn.onStore_len {t:Tree} {s:Vapate.State} (T:Bn t s) (r:Int) {f:Tree->Nat->Names->Vapate.State×Vapate.Answer} {B:Nat} (hB:1<=B) (h:∀k a,Vapate.storeOf s r=some (k,a)->(f t k a).2.length<=B):(Vapate.onStore s r f).2.length<=B:=by
 unfold Vapate.onStore Vapate.onTree
 rw[T.tree]
 simp only
 cases e:Vapate.storeOf s r with
 |none=>exact hB
 |some x=>exact h x.1 x.2 e
theorem WT {s:Vapate.State} (h:Db s) (c:Vapate.Call):(Vapate.step s c).2.length<=1990:=by
 rcases h with rfl|⟨t,T⟩
 ·cases c with
  |tree l=>
   simp only[Vapate.step]
   split<;>simp[Vapate.refused]
  |_=>simp[Vapate.step,Vapate.onStores,Vapate.onStore,Vapate.onTree,Vapate.start,Vapate.refused,Vapate.doRecord]
 ·cases c with
  |tree l=>
   simp only[Vapate.step]
   split<;>simp[Vapate.refused]
  |record r n e l=>
   simp only[Vapate.step,Vapate.doRecord]
   refine T.onStore_len r (by omega) fun k a hsa=>?_
   split
   ·simp[Vapate.refused]
   ·split
    ·simp[Vapate.refused]
    ·split
     ·simp[Vapate.refused]
     ·split
      ·simp[Vapate.refused]
      ·split
       ·simp[Vapate.refused]
       ·split
        ·simp[Vapate.refused]
        ·split
         ·simp[Vapate.refused]
         ·simp
  |known r=>
   refine T.onStore_len r (by omega) fun k a e=>?_
   have:=(Bf T e).1.len T.I
   simp only[OJ]
   omega
  |row r=>
   refine T.onStore_len r (by omega) fun k a e=>?_
   have na:=(Bf T e).1
   have:=JU (DO T.srt T.I na.kn).good (T.row_len na)
   simp only
   omega
  |outcome r=>
   refine T.onStore_len r (by omega) fun k a e=>?_
   obtain ⟨u,h1,h2,h3,h4⟩:=T.outcome (Bf T e).1
   simp only[h1,Vapate.treeTold]
   have:=M3 h3 h4
   omega
  |conflicts r=>
   refine T.onStore_len r (by omega) fun k a e=>?_
   have:=Kt (ks:=s.known) ((Bf T e).1.len T.I)
   simp only[List.length_cons,Ec]
   omega
  |idle r=>
   refine T.onStore_len r (by omega) fun k a e=>?_
   have h1:=(Bf T e).1.len T.I
   have h2:=List.length_filter_le (fun n=>Vapate.whyIdle s.known a n !=0) a
   simp only[List.length_cons,Ec]
   omega
  |block n=>
   simp only[Vapate.step,Vapate.onTree]
   rw[T.tree]
   simp only
   split
   ·simp[Vapate.refused]
   next k hk=>
    have hn:¬n<0:=by
     intro q
     rw[if_pos q]at hk
     cases hk
    rw[if_neg hn]at hk
    have hkn:KN s.known n.toNat:=by unfold KN;rw[hk];rfl
    have hb:blockOf s.known n.toNat=k.block:=by unfold blockOf;rw[hk];rfl
    have g:=T.I.good _ hkn
    have l:=T.I.row_len (Con.self T.I.W hkn)
    rw[hb]at g l
    have h1:=JU g l
    have h2:=(T.ends k (List.mem_of_find?_eq_some hk)).1
    simp only[List.length_append,OJ]
    omega
  |bring r q n=>
   simp only[Vapate.step,Vapate.onStores]
   refine T.onStore_len r (by omega) fun k a e=>?_
   split
   ·simp[Vapate.refused]
   ·split
    ·simp[Vapate.refused]
    ·simp[Vapate.withStore]
  |pull r q=>
   simp only[Vapate.step,Vapate.onStores]
   refine T.onStore_len r (by omega) fun k a e=>?_
   split
   ·simp[Vapate.refused]
   ·simp[Vapate.withStore]
  |forget r n=>
   simp only[Vapate.step]
   refine T.onStore_len r (by omega) fun k a e=>?_
   split
   ·simp[Vapate.refused]
   ·simp[Vapate.withStore]
  |tag r k=>
   simp only[Vapate.step]
   refine T.onStore_len r (by omega) fun k a e=>?_
   split
   ·simp[Vapate.refused]
   ·simp
  |at_ k=>
   simp only[Vapate.step,Vapate.onTree]
   rw[T.tree]
   simp only
   split
   ·simp[Vapate.refused]
   next a ha=>
    obtain ⟨u,h1,h2,h3,h4⟩:=T.outcome (T.tg a (OI ha))
    simp only[h1,Vapate.treeTold]
    have:=M3 h3 h4
    omega
  |back r k=>
   simp only[Vapate.step]
   refine T.onStore_len r (by omega) fun k a e=>?_
   split
   ·simp[Vapate.refused]
   ·simp[Vapate.withStore]
  |alike r q=>
   simp only[Vapate.step,Vapate.onStores]
   refine T.onStore_len r (by omega) fun k a e=>?_
   split
   ·simp[Vapate.refused]
   ·simp
theorem Bn.nok {t:Tree} {s:Vapate.State} (hT:Bn t s) {n:Nat} (hn:n<3):NOk s.known (s.stores.getD n []):=by
 have hl:n<s.stores.length:=by rw[hT.sl];exact hn
 rw[List.getD_eq_getElem?_getD,List.getElem?_eq_getElem hl]
 exact hT.st _ (List.getElem_mem hl)
end Ps
end
section
namespace Ps
open PyVapate (shape whole)
def rd1:List Int->Option (Vapate.Call×List Int)
 |[]=>none
 |p::r=>
  if p=0 then (match PyFlat.row r with
   |some (x,t)=>some (.tree x,t)
   |none=>none)
  else if p=1 then (match r with
   |a::b::r=>(match PyFlat.row r with
    |some (x,t)=>(match PyFlat.row t with
     |some (y,u)=>some (.record a b x y,u)
     |none=>none)
    |none=>none)
   |_=>none)
  else if p=8 then (match r with
   |a::b::c::r=>some (.bring a b c,r)
   |_=>none)
  else if p=9 then (match r with
   |a::b::r=>some (.pull a b,r)
   |_=>none)
  else if p=10 then (match r with
   |a::b::r=>some (.forget a b,r)
   |_=>none)
  else if p=11 then (match r with
   |a::b::r=>some (.tag a b,r)
   |_=>none)
  else if p=13 then (match r with
   |a::b::r=>some (.back a b,r)
   |_=>none)
  else if p=14 then (match r with
   |a::b::r=>some (.alike a b,r)
   |_=>none)
  else (match r with
   |a::r=>if p=2 then some (.known a,r) else if p=3 then some (.row a,r) else if p=4 then some (.outcome a,r) else if p=5 then some (.conflicts a,r)
    else if p=6 then some (.idle a,r) else if p=7 then some (.block a,r) else if p=12 then some (.at_ a,r) else none
   |_=>none)
theorem XN {p:Int} {r:List Int} {c:List (List Int)} {t:List Int} (h:PyFlat.call shape (p::r)=some (c,t)):∃k,rd1 (p::r)=some (k,t)/\VapateNeutral.callOf (whole c)=some k/\t.length<=r.length:=by
 unfold PyFlat.call at h
 simp only at h
 have e0:∀{n k:Nat} {c t},(if r.length<n then none else match PyFlat.rows k (r.drop n) with
   |none=>none
   |some (xs,t)=>some ((p::r.take n)::xs,t))=some (c,t)->¬r.length<n/\∃xs,PyFlat.rows k (r.drop n)=some (xs,t)/\c=(p::r.take n)::xs:=by
  intro n k c t h
  split at h
  ·cases h
  next hn=>
   split at h
   ·cases h
   next xs t' e=>
    cases h
    exact ⟨hn,xs,e,rfl⟩
 by_cases p0:p=0
 ·subst p0
  obtain ⟨hn,xs,h1,rfl⟩:=e0 (n:=0) (k:=1) h
  simp only[List.drop_zero,PyFlat.rows]at h1
  simp only[rd1,if_true]
  cases e:PyFlat.row r with
  |none=>rw[e]at h1;cases h1
  |some w=>
   obtain ⟨x,t'⟩:=w
   rw[e]at h1
   cases h1
   refine ⟨_,rfl,rfl,?_⟩
   unfold PyFlat.row at e
   cases r with
   |nil=>cases e
   |cons n r=>
    simp only at e
    split at e
    ·cases e;simp;omega
    ·cases e
 by_cases p1:p=1
 ·subst p1
  obtain ⟨hn,xs,h1,rfl⟩:=e0 (n:=2) (k:=2) h
  match r,hn with
  |[],hn=>simp at hn
  |[a],hn=>simp at hn
  |a::b::r,_=>
   simp only[List.drop_succ_cons,List.drop_zero,PyFlat.rows]at h1
   simp only[rd1]
   cases e:PyFlat.row r with
   |none=>rw[e]at h1;cases h1
   |some w=>
    obtain ⟨x,t'⟩:=w
    rw[e]at h1
    simp only at h1
    cases e2:PyFlat.row t' with
    |none=>rw[e2]at h1;cases h1
    |some w2=>
     obtain ⟨y,u⟩:=w2
     rw[e2]at h1
     cases h1
     refine ⟨.record a b x y,by simp[e2],rfl,?_⟩
     have rl:∀{r x t:List Int},PyFlat.row r=some (x,t)->t.length<=r.length:=by
      intro r x t e
      unfold PyFlat.row at e
      cases r with
      |nil=>cases e
      |cons n r=>
       simp only at e
       split at e
       ·cases e;simp;omega
       ·cases e
     have:=rl e
     have:=rl e2
     simp only[List.length_cons]
     omega
 have one:∀{k:Vapate.Call} {a:Int} {r':List Int},r=a::r'->shape p=some (1,0)->rd1 (p::a::r')=some (k,r')->VapateNeutral.callOf (whole [[p,a]])=some k->∃k,rd1 (p::r)=some (k,t)/\VapateNeutral.callOf (whole c)=some k/\t.length<=r.length:=by
  intro k a r' er es e1 e2
  subst er
  rw[es]at h
  obtain ⟨hn,xs,h1,rfl⟩:=e0 (n:=1) (k:=0) h
  simp only[List.drop_succ_cons,List.drop_zero,PyFlat.rows]at h1
  cases h1
  exact ⟨k,e1,e2,by simp⟩
 have two:∀{k:Vapate.Call} {a b:Int} {r':List Int},r=a::b::r'->shape p=some (2,0)->rd1 (p::a::b::r')=some (k,r')->VapateNeutral.callOf (whole [[p,a,b]])=some k->∃k,rd1 (p::r)=some (k,t)/\VapateNeutral.callOf (whole c)=some k/\t.length<=r.length:=by
  intro k a b r' er es e1 e2
  subst er
  rw[es]at h
  obtain ⟨hn,xs,h1,rfl⟩:=e0 (n:=2) (k:=0) h
  simp only[List.drop_succ_cons,List.drop_zero,PyFlat.rows]at h1
  cases h1
  exact ⟨k,e1,e2,by simp;omega⟩
 have Lw:shape p=some (1,0)->∃a r',r=a::r':=by
  intro es
  rw[es]at h
  obtain ⟨hn,-⟩:=e0 (n:=1) (k:=0) h
  match r,hn with
  |[],hn=>simp at hn
  |a::r,_=>exact ⟨a,r,rfl⟩
 have NR:shape p=some (2,0)->∃a b r',r=a::b::r':=by
  intro es
  rw[es]at h
  obtain ⟨hn,-⟩:=e0 (n:=2) (k:=0) h
  match r,hn with
  |[],hn=>simp at hn
  |[a],hn=>simp at hn
  |a::b::r,_=>exact ⟨a,b,r,rfl⟩
 by_cases p8:p=8
 ·subst p8
  obtain ⟨hn,xs,h1,rfl⟩:=e0 (n:=3) (k:=0) h
  match r,hn with
  |[],hn=>simp at hn
  |[a],hn=>simp at hn
  |[a,b],hn=>simp at hn
  |a::b::d::r,_=>
   simp only[List.drop_succ_cons,List.drop_zero,PyFlat.rows]at h1
   cases h1
   exact ⟨.bring a b d,rfl,rfl,by simp;omega⟩
 by_cases p9:p=9
 ·subst p9;obtain ⟨a,b,r',e⟩:=NR rfl;exact two e rfl rfl rfl
 by_cases p10:p=10
 ·subst p10;obtain ⟨a,b,r',e⟩:=NR rfl;exact two e rfl rfl rfl
 by_cases p11:p=11
 ·subst p11;obtain ⟨a,b,r',e⟩:=NR rfl;exact two e rfl rfl rfl
 by_cases p13:p=13
 ·subst p13;obtain ⟨a,b,r',e⟩:=NR rfl;exact two e rfl rfl rfl
 by_cases p14:p=14
 ·subst p14;obtain ⟨a,b,r',e⟩:=NR rfl;exact two e rfl rfl rfl
 by_cases p2:p=2
 ·subst p2;obtain ⟨a,r',e⟩:=Lw rfl;exact one e rfl rfl rfl
 by_cases p3:p=3
 ·subst p3;obtain ⟨a,r',e⟩:=Lw rfl;exact one e rfl rfl rfl
 by_cases p4:p=4
 ·subst p4;obtain ⟨a,r',e⟩:=Lw rfl;exact one e rfl rfl rfl
 by_cases p5:p=5
 ·subst p5;obtain ⟨a,r',e⟩:=Lw rfl;exact one e rfl rfl rfl
 by_cases p6:p=6
 ·subst p6;obtain ⟨a,r',e⟩:=Lw rfl;exact one e rfl rfl rfl
 by_cases p7:p=7
 ·subst p7;obtain ⟨a,r',e⟩:=Lw rfl;exact one e rfl rfl rfl
 by_cases p12:p=12
 ·subst p12;obtain ⟨a,r',e⟩:=Lw rfl;exact one e rfl rfl rfl
 exfalso
 have:shape p=none:=by simp[shape,p0,p1,p2,p3,p4,p5,p6,p7,p8,p9,p10,p11,p12,p13,p14]
 rw[this]at h
 cases h
def Ax (s:Vapate.State) (cs:List (List (List Int))):List Int:=PyFlat.told (PyFlat.played VapateNeutral.step s (cs.map whole))
theorem WS (s:Vapate.State):Ax s []=[]:=rfl
theorem Wl {f:Nat} {p:Int} {r:List Int} {cs:List (List (List Int))} (h:PyFlat.calls shape f (p::r)=some cs) (s:Vapate.State):
  ∃k t cs' f',rd1 (p::r)=some (k,t)/\PyFlat.calls shape f' t=some cs'/\cs.length=cs'.length+1/\t.length<=r.length/\
   Ax s cs=(((Vapate.step s k).2.length:Nat):Int)::(Vapate.step s k).2++Ax (Vapate.step s k).1 cs':=by
 cases f with
 |zero=>simp[PyFlat.calls]at h
 |succ f=>
  simp only[PyFlat.calls]at h
  split at h
  ·cases h
  next c t e=>
   split at h
   ·cases h
   next cs' e2=>
    cases h
    obtain ⟨k,h1,h2,h3⟩:=XN e
    refine ⟨k,t,cs',f,h1,e2,rfl,h3,?_⟩
    have hs:VapateNeutral.step s (whole c)=((Vapate.step s k).1,(Vapate.step s k).2):=by
     unfold VapateNeutral.step
     rw[h2]
     rfl
    unfold Ax
    simp only[List.map_cons,PyFlat.played,PyFlat.told,List.flatMap_cons,hs]
theorem XS {f:Nat} {cs:List (List (List Int))} (h:PyFlat.calls shape f []=some cs):cs=[]:=by
 cases f<;>simp[PyFlat.calls]at h<;>exact h
theorem SL {l:List Int} (h:PyVapate.answers_asked l=true):∃cs,PyFlat.calls shape l.length l=some cs/\PyVapate.answers l=Ax Vapate.start cs/\cs.length<=40:=by
 unfold PyVapate.answers_asked at h
 cases e:PyFlat.calls shape l.length l with
 |none=>rw[e]at h;cases h
 |some raw=>
  rw[e]at h
  simp only[Bool.and_eq_true]at h
  refine ⟨raw,rfl,?_,by simpa [PyFlat.atMost] using h.1.1.1.2⟩
  unfold PyVapate.answers PyVapate.calls
  rw[e]
  rfl
end Ps
end
namespace Pz
open PySem PySem.Spec PyProof.Rows L2
local macro_rules | `(tactic| trivial) => `(tactic| simp only [UR, U3, Ur, UO, Qr, PY, Qq, KG, Ld, rI0, rI, rU, tC, Rp, tOp, tUn, tB, O6, UP, U0, tOr, tIf, Ut, R3, UK, UM, Qw, O8, tCB, R1, Lz, Uc, UN, tSl, Qz, MH, B6, AU, tBM, ME, M8, Ih, Rr, HZ, Ig, U2, Uk, Uh, Qy, UU, RV, SG, PH, Qv, Qj, Qx, Qu, RY, Qp, Uo, U5, Qo, UV, Us, Pa, t2I, Ql, Jt, OB, Qm, UZ, MN, Qi, OA, S1, Um, Kb, KI, KL, R4, U9, Ud, KR, rIn, V.int.injEq,
 L2.start,List.map_cons,List.map_nil,List.length_cons,List.length_nil,List.cons_append,List.nil_append,List.append_nil,List.getElem?_cons_zero,List.getElem?_cons_succ,List.set_cons_zero,List.set_cons_succ,Option.some.injEq,exists_eq_left',exists_eq_left,V.int.injEq,V.bl.injEq,V.ref.injEq,exists_and_left,exists_eq_right,exists_eq_right',exists_and_right,exists_eq',true_and,decide_eq_true_eq,Bool.not_eq_true',decide_eq_false_iff_not,List.replicate,Nat.sub_self,Nat.zero_add,Nat.reduceAdd,Nat.reduceSub,List.cons.injEq,and_true,if_true,Bool.false_eq_true,if_false,Bool.not_true,Bool.not_false,ite_true,ite_false,reduceIte])
local macro_rules | `(tactic| nofun) => `(tactic| first | exact Or.inl rfl | exact Or.inr rfl)
local macro_rules | `(tactic| ac_rfl) => `(tactic| ((repeat (first | rw [B8, if_pos rfl] | rw [B8, if_neg (by decide)])); try rfl))
section
theorem Az.nil {K:PySem.W.Frag} {H:Hp}:Az K H [] []:=⟨by simp,by simp,fun n=>by simp[VapatBase.fileIn,Ae]⟩
section
variable {P:Program} {w:World} {K:PySem.W.Frag} {mg:Str->Option Value} {base:Heap}
abbrev IN:Stmt:=top 51
theorem CO:AC ["numbers","tree","last","place","file_number","tokens"] ["numbers"] (A7 IN):=⟨rfl,rfl,rfl,by decide+kernel,rfl,by decide+kernel,by decide+kernel⟩
def LJ (K:PySem.W.Frag):Sp:=fun vs H Q _=>∃(a:Addr) (ns:List Int),vs=[.ref a]/\SqL K H a (ns.map V.int)/\ns.length<=5000/\(∀H',A1 H H'->Ps.DF ns=none->Q .non H')/\(∀H' v t,A1 H H'->Ps.DF ns=some t->treeV K H' v t->Q v H')
theorem RE (T:Wj K mg) (D:AA K mg "read_tree" IN ["numbers"]) (Am:OkF P w K mg base 1 "is_file_name" ["number"] CV) (CZ:OkF P w K mg base 2 "read_tokens" ["numbers","place","most"] (GI K)):OkF P w K mg base 3 "read_tree" ["numbers"] (LJ K):=by
 refine D.ok CO (fun vs H Q E h=>?_) (fun f cdv A outer s H vs Q E hr h=>?_)
 ·obtain ⟨a,ns,rfl,_⟩:=h
  rfl
 ·obtain ⟨a,ns,rfl,hS,hlen,k1,k2⟩:=h
  have hu:=Ao hr
  refine ⟨_,(A2 (AH (PW.pt (Ce (Bd (S4 (pv 0) (fun _=>rfl))) (Cs (Bd (Ej CN CN A9 (AF (r:=B6 K) Ak (pv 0) A9 (fun _ _=>rfl)) (AI T.MOST_FILES))))))
   (A5 (A6 At))
   AB)
   (A2 (AE (i:=1) CO.nd rfl (by nofun) Ge)
   (A2 (AE (i:=2) CO.nd rfl (by nofun) (OT M0 A9))
   (A2 (AE (i:=3) CO.nd rfl (by nofun) A9)
   (A2 (BH PassesOwn.never rfl (JE rfl T.range (A0 (AF (r:=B6 K) Ak (pv 0) A9 (fun _ _=>rfl)) A3)) (AZ (i:=4) CO.nd rfl (by nofun))
   (A2 (AH (PW.pt (Ce (BZ Uq (pv 3) (AN AJ (by rfl) T.len PySem.boot_len (A0 (pv 0) A3)) (DI _)) (Ce (Bd (Bv (AD Am (hr.mono (by decide)) (A0 (AF (r:=B6 K) Ak (pv 0) (pv 3) (fun _ _=>rfl)) A3)))) (Cs (BZ CN (AF (r:=B6 K) Ak (pv 0) (pv 3) (fun _ _=>rfl)) (pv 2) (DI _))))))
    (A5 (A6 At))
    AB)
    (A2 (AE (i:=5) CO.nd rfl (by nofun) (AD CZ (hr.mono (by decide)) (A0 (pv 0) (A0 (As Bk (pv 3) A9) (A0 (AI T.MOST_TREE_TOKENS) A3)))))
    (A2 (AH (AG (C5 (pv 5)))
    (A5 (A6 At))
    AB)
    (A2 (AE (i:=2) CO.nd rfl (by nofun) (AF (r:=B6 K) Ak (pv 0) (pv 3) (fun _ _=>rfl)))
    (A2 (DZ hu (pv 1) (pv 2) (pv 5) rfl)
    (A5 (AE (i:=3) CO.nd rfl (by nofun) (As Bk (As Bk (pv 3) A9) (AN AJ (by rfl) T.len PySem.boot_len (A0 (pv 5) A3)))))))))))
   (A2 (AH (AG (Lu (pv 3) (AN AJ (by rfl) T.len PySem.boot_len (A0 (pv 0) A3))))
   (A5 (A6 At))
   AB)
   (A5 (A6 (pv 1))))))))),?_⟩
  trivial
  cases ns with
  |nil=>exact ⟨false,.inl ⟨_,hS,rfl⟩,ifT rfl (k1 H (A1.refl H) rfl)⟩
  |cons z l=>
   refine ⟨true,.inl ⟨_,hS,rfl⟩,ifF (by simp) ⟨_,hS,_,CA (j:=0) rfl,z,rfl,?_⟩⟩
   by_cases c1:¬0<=z
   ·exact ifF c1 (k1 H (A1.refl H) (by simp only[Ps.DF];rw[if_neg (fun h=>c1 h.1)]))
   replace c1:=Classical.not_not.1 c1
   refine ifT c1 ⟨z,rfl,?_⟩
   by_cases c2:¬z<=6
   ·exact ifT c2 (k1 H (A1.refl H) (by simp only[Ps.DF];rw[if_neg (fun h=>c2 h.2)]))
   replace c2:=Classical.not_not.1 c2
   refine ifF (fun h=>h c2) (fun d hd=>⟨_,(A1.new hd).seq hS,_,CA (j:=0) rfl,z,rfl,by omega,by omega,?_⟩)
   have hrd:Ps.DF (z::l)=(match Ps.rt z.toNat (-1) l with
    |some (t,[])=>some t
    |_=>none):=by simp only[Ps.DF];rw[if_pos ⟨c1,c2⟩]<;>rfl
   have hno:Ps.rt z.toNat (-1) l=none->Ps.DF (z::l)=none:=fun h=>by rw[hrd,h]
   refine FX (H0:=H) Gr (fun i σ H'=>A1 H H'/\∃(last:Int) (place:Nat) (t:VapatBase.Tree) (kvs:List (Key×V)) (o1 o2:Option V),σ=[some (.ref a),some (.ref d),some (.int last),some (.int ((place:Nat):Int)),o1,o2]/\place<=(z::l).length/\
    Ps.rt i (-1) l=some (t,(z::l).drop place)/\last=(t.getLast?.map (fun x=>(x.1:Int))).getD (-1)/\H' d=some (.dK kvs)/\Az K H' kvs t)
    ⟨A1.new hd,-1,1,[],[],none,none,rfl,by simp,rfl,rfl,A4,Az.nil⟩ (fun i σ H' h=>h.1) ?_ ?_
   ·rintro i x σ H' hx ⟨e,last,place,t,kvs,o1,o2,rfl,hpl,hrt,rfl,hD,hR⟩
    have hi:i<z.toNat:=by
     rcases Nat.lt_or_ge i z.toNat with h|h
     ·exact h
     ·rw[List.getElem?_eq_none (by simpa using h)]at hx;cases hx
    have hS':=e.seq hS
    trivial
    refine ⟨_,.inl hS',?_⟩
    rw[List.length_map]
    by_cases c3:(z::l).length<=place
    ·refine ifT (by omega) (k1 H' e (hno ?_))
     rw[List.drop_eq_nil_of_le c3]at hrt
     have:=Ps.Rw hrt (z.toNat - (i+1))
     rw[show i+1+(z.toNat - (i+1))=z.toNat by omega]at this
     exact this
    have hp:place<(z::l).length:=by omega
    obtain ⟨g,hg⟩:∃g,(z::l)[place]?=some g:=⟨(z::l)[place],by simp[hp]⟩
    have ed:(z::l).drop place=g::(z::l).drop (place+1):=by
     rw[List.drop_eq_getElem_cons hp]
     rw[List.getElem?_eq_getElem hp]at hg
     rw[Option.some.inj hg]
    rw[ed]at hrt
    have hsn:=Ps.Td hrt
    have hnone:Ps.rt (i+1) (-1) l=none->Ps.DF (z::l)=none:=fun h=>by
     have:=Ps.TV h (z.toNat - (i+1))
     rw[show i+1+(z.toNat - (i+1))=z.toNat by omega]at this
     exact hno this
    refine ifF (by omega) ⟨_,hS',.int g,CA (by rw[List.getElem?_map,hg];rfl),g,rfl,?_⟩
    by_cases c4:¬(0<=g/\g<=9)
    ·exact ⟨_,rfl,ifT (by rw[DS];exact c4) (k1 H' e (hnone (by rw[hsn,if_neg (fun h=>c4 h.1)])))⟩
    replace c4:=Classical.not_not.1 c4
    refine ⟨_,rfl,ifF (by rw[DS];exact fun h=>h c4) ⟨_,hS',.int g,CA (by rw[List.getElem?_map,hg];rfl),g,rfl,?_⟩⟩
    by_cases c5:g<=(t.getLast?.map (fun x=>(x.1:Int))).getD (-1)
    ·exact ifT c5 (k1 H' e (hnone (by rw[hsn,if_neg (fun h=>by have:=h.2;omega)])))
    rw[if_pos ⟨c4,by omega⟩]at hsn
    refine ifF c5 ⟨a,z::l,place+1,12,by simp[iN],hS',hlen,fun H1 e1 hn=>ifT rfl (k1 H1 (e.trans e1) (hnone (by rw[hsn,hn]))),fun H1 v c r e1 hs hv=>?_⟩
    obtain ⟨pv,rfl,hpv⟩:=hv
    obtain ⟨m1,m2,m3,m4⟩:=Ps.CC hs
    rw[hs]at hsn
    simp only at hsn
    have hD1:=e1 _ _ hD
    have hsrt:Ps.Srt (t++[(g.toNat,c)]):=(Ps.Od (Ps.Ui hsn)).1
    have hne:∀x∈t,x.1≠g.toNat:=by
     intro x hx
     unfold Ps.Srt at hsrt
     rw[List.map_append,List.pairwise_append]at hsrt
     have:=hsrt.2.2 x.1 (List.mem_map.2 ⟨x,hx,rfl⟩) g.toNat (by simp)
     omega
    have hkl:kvs.length<sizeLine:=by
     have ht:Ps.Srt t:=(Ps.Od (Ps.Ui hrt)).1
     have h1:=hR.len ht
     have h2:=(Ps.Rq hrt).1
     exact szl (by omega)
    have hgn:((g.toNat:Nat):Int)=g:=Int.toNat_of_nonneg c4.1
    have hput:=FW.k (v:=V.ref pv) (k:=Sum.inl g) hD1 hkl
    have t1:AQ K H1 (upd H1 d (.dK (BB kvs (Sum.inl g) (.ref pv)))):=AQ.dK hD1
    rw[List.length_drop]at m4
    refine ifF (fun q=>nomatch q) ⟨_,e1.seq hS',.int g,CA (by rw[List.getElem?_map,hg];rfl),_,hput,pv,rfl,_,.inr (t1 _ _ hpv),A1.put (e.trans e1) hd,g,place+2+c.length,⟨rfl,by rw[List.length_map];omega⟩,by simp only[List.length_cons]at m4;omega,t++[(g.toNat,c)],?_,by simp[hgn],_,A4,?_⟩
    ·rw[hsn,m3,List.drop_drop]
     congr 3
     omega
    ·have:=Az.put (f:=g.toNat) (t':=t++[(g.toNat,c)]) (hR.t ((AQ.of e1).trans t1)) (u:=.ref pv) (c:=c) ⟨pv,rfl,t1 _ _ hpv⟩ (fun n=>Ps.Mn hne n)
     rw[hgn]at this
     exact this
   ·rintro σ H' ⟨e,last,place,t,kvs,o1,o2,rfl,hpl,hrt,rfl,hD,hR⟩
    have hS':=e.seq hS
    rw[List.length_map,List.length_range]at hrt
    trivial
    refine ⟨_,.inl hS',?_⟩
    rw[List.length_map]
    by_cases c4:place=(z::l).length
    ·refine ifF (by simp[c4]) (k2 H' _ t e ?_ ⟨d,kvs,rfl,hD,hR⟩)
     rw[hrd,hrt,List.drop_eq_nil_of_le (by omega)]
    ·refine ifT (by simp;simp at c4;omega) (k1 H' e ?_)
     rw[hrd,hrt]
     have:(z::l).drop place≠[]:=fun h=>by
      rw[List.drop_eq_nil_iff]at h
      omega
     cases hh:(z::l).drop place with
     |nil=>exact absurd hh this
     |cons y r=>rfl
end
end
section
open Vapate (Known find blockOf endsOf needsOf)
def JD (H:Hp) (v:V) (l:List Nat):Prop:=∃a,v=.ref a/\H a=some (.lst (l.map iN))
theorem JD.same {H H':Hp} {v:V} {l:List Nat} (e:A1 H H') (h:JD H v l):JD H' v l:=by
 obtain ⟨a,rfl,h⟩:=h
 exact ⟨a,rfl,e _ _ h⟩
def Lf (K:PySem.W.Frag) (H:Hp) (v:V) (k:Known):Prop:=∃a C dx fs vb ve,v=.ref a/\H a=some (.ins C dx fs)/\Cls K C/\B7 K C "block"/\B7 K C "ends"/\fs.lookup ("block":Str)=some vb/\fs.lookup ("ends":Str)=some ve/\BA K H vb k.block/\JD H ve k.ends
theorem Lf.same {K:PySem.W.Frag} {H H':Hp} {v:V} {k:Known} (e:A1 H H') (h:Lf K H v k):Lf K H' v k:=by
 obtain ⟨a,C,dx,fs,vb,ve,rfl,h1,h2,h3,h4,h5,h6,h7,h8⟩:=h
 exact ⟨a,C,dx,fs,vb,ve,rfl,e _ _ h1,h2,h3,h4,h5,h6,h7.same e,h8.same e⟩
def Gj (K:PySem.W.Frag) (H:Hp) (kvs:List (Key×V)) (ks:List Known):Prop:=kvs.length<=ks.length/\(∀k∈kvs.map (·.1),∃n:Nat,k=Sum.inl (n:Int))/\
 ∀n:Nat,match find ks n with
  |none=>Ae kvs (Sum.inl (n:Int))=none
  |some k=>∃u,Ae kvs (Sum.inl (n:Int))=some u/\Lf K H u k
theorem Gj.same {K:PySem.W.Frag} {H H':Hp} {kvs:List (Key×V)} {ks:List Known} (e:A1 H H') (h:Gj K H kvs ks):Gj K H' kvs ks:=by
 refine ⟨h.1,h.2.1,fun n=>?_⟩
 have:=h.2.2 n
 split at this
 next q=>rw[q]at*;exact this
 next c q=>
  obtain ⟨u,h1,h2⟩:=this
  exact ⟨u,h1,h2.same e⟩
theorem Gj.some {K:PySem.W.Frag} {H:Hp} {kvs:List (Key×V)} {ks:List Known} {n:Nat} (h:Gj K H kvs ks) (hn:Ps.KN ks n):∃u k,find ks n=Option.some k/\Ae kvs (Sum.inl (n:Int))=Option.some u/\Lf K H u k/\blockOf ks n=k.block/\endsOf ks n=k.ends:=by
 have:=h.2.2 n
 unfold Ps.KN at hn
 cases e:find ks n with
 |none=>rw[e]at hn;cases hn
 |some k=>
  rw[e]at this
  obtain ⟨u,h1,h2⟩:=this
  exact ⟨u,k,rfl,h1,h2,by unfold blockOf;rw[e];rfl,by unfold endsOf;rw[e];rfl⟩
def O7 (K:PySem.W.Frag) (H:Hp) (v:V) (ks:List Known):Prop:=∃a kvs,v=.ref a/\H a=some (.dK kvs)/\Gj K H kvs ks
theorem O7.same {K:PySem.W.Frag} {H H':Hp} {v:V} {ks:List Known} (e:A1 H H') (h:O7 K H v ks):O7 K H' v ks:=by
 obtain ⟨a,kvs,rfl,h1,h2⟩:=h
 exact ⟨a,kvs,rfl,e _ _ h1,h2.same e⟩
def Lq (H:Hp) (a:Addr) (m:Nat) (S:List Nat):Prop:=∃kvs,H a=some (.dK kvs)/\kvs.length<=m/\∀n:Nat,(Ae kvs (Sum.inl (n:Int))).isSome=S.contains n
theorem Lq.put {H:Hp} {m x:Nat} {S:List Nat} {kvs:List (Key×V)} {v:V} (h1:kvs.length<=m) (h2:∀n:Nat,(Ae kvs (Sum.inl (n:Int))).isSome=S.contains n):
  (BB kvs (Sum.inl (x:Int)) v).length<=m+1/\∀n:Nat,(Ae (BB kvs (Sum.inl (x:Int)) v) (Sum.inl (n:Int))).isSome=(S++[x]).contains n:=by
 constructor
 ·by_cases hk:(Sum.inl (x:Int):Key)∈kvs.map (·.1)
  ·have:=congrArg List.length (Fd (v:=v) hk)
   simp at this
   omega
  ·have:=congrArg List.length (Eh (v:=v) hk)
   simp at this
   omega
 ·intro n
  rw[FZ]
  by_cases e:n=x
  ·subst e
   simp
  ·rw[if_neg (fun q=>e (by have:=Sum.inl.inj q;omega)),h2 n]
   simp[e]
theorem B0.k' {H:Hp} {a:Addr} {kvs:List (Key×V)} {n:Nat} {u:V} (e:H a=some (.dK kvs)) (h:Ae kvs (Sum.inl (n:Int))=some u):B0 H a (iN n) (some u):=by
 have:=B0.k (k:=Sum.inl (n:Int)) e
 rw[h]at this
 exact this
theorem SC {K:PySem.W.Frag} {a:Addr} {xs:List V} {H1:Hp} {g:TG} {tb:TS} {D:JW} {σ:L2.St} (Pv:Nat->L2.St->Hp->Prop) (h0:Pv 0 σ H1) (same:∀i σ H,Pv i σ H->SqL K H a xs)
  (hs:∀i x σ H,xs[i]?=some x->Pv i σ H->g x σ H fun σ2 H2=>tb {D with nx:=Pv (i+1),ct:=Pv (i+1),bk:=D.nx} σ2 H2) (hd:∀σ H,Pv xs.length σ H->D.nx σ H):MC (Itl K a) H1 g tb D σ:=by
 refine ⟨fun i m σ H=>m=xs.length - i/\i<=xs.length/\Pv i σ H,⟨xs.length,by simp,Nat.zero_le _,h0⟩,?_⟩
 rintro i m σ H ⟨rfl,hi,p⟩
 have q:=same i σ H p
 by_cases hlt:i<xs.length
 ·refine .inr ⟨⟨xs,xs[i],q,by simp[hlt]⟩,Pv (i+1),fun σ' H' p'=>⟨xs.length - (i+1),by omega,rfl,hlt,p'⟩,fun x H' y=>?_⟩
  obtain ⟨rfl,hz⟩:=y
  exact hs i x σ _ (hz xs q) p
 ·have ei:i=xs.length:=by omega
  subst ei
  exact .inl ⟨⟨xs,q,Nat.le_refl _⟩,hd σ H p⟩
section
variable {P:Program} {w:World} {K:PySem.W.Frag} {mg:Str->Option Value} {base:Heap}
abbrev GL:Stmt:=top 59
theorem En:AC ["recorded","names","ended","name","end"] ["recorded","names"] (A7 GL):=⟨rfl,rfl,rfl,by decide+kernel,rfl,by decide+kernel,by decide+kernel⟩
def Ji (K:PySem.W.Frag):Sp:=fun vs H Q _=>∃(v:V) (l:Addr) (ks:List Known) (s:List Nat),vs=[v,.ref l]/\O7 K H v ks/\H l=some (.lst (s.map iN))/\(∀n∈s,Ps.KN ks n)/\s.length<=20/\(∀n,(endsOf ks n).length<=20)/\
 ∀H' a,A1 H H'->Lq H' a 400 (Vapate.ended ks s)->Q (.ref a) H'
theorem Ol (T:Txt K mg) (D:AA K mg "ended_names" GL ["recorded","names"]):OkF P w K mg base 1 "ended_names" ["recorded","names"] (Ji K):=by
 refine D.ok En (fun vs H Q E h=>?_) (fun f cdv A outer s H vs Q E hr h=>?_)
 ·obtain ⟨v,l,ks,s,rfl,_⟩:=h
  rfl
 ·obtain ⟨v,l,ks,ss,rfl,⟨a,kvs,rfl,hd,hR⟩,hL,hkn,hsl,hel,k⟩:=h
  have hu:=Ao hr
  refine ⟨_,(A2 (AE (i:=2) En.nd rfl (by nofun) Ge)
   (A2 (BH PassesOwn.never rfl (B4 (pv 1)) (AZ (i:=3) En.nd rfl (by nofun))
   (A5 (BH PassesOwn.never rfl (B4 (AY (C9 hu (pv 0) (pv 3) (fun _ _=>rfl)) rfl)) (AZ (i:=4) En.nd rfl (by nofun))
    (A5 (DZ hu (pv 2) (pv 4) JA rfl)))))
   (A5 (A6 (pv 2))))),?_⟩
  trivial
  intro d hdn
  refine ⟨⟨_,(A1.new hdn).seq (SqL.of hL)⟩,?_⟩
  refine FX (H0:=H) (Ay (SqL.of hL)) (fun i σ H'=>A1 H H'/\∃(o1 o2:Option V),σ=[some (.ref a),some (.ref l),some (.ref d),o1,o2]/\Lq H' d (20*i) (Vapate.ended ks (ss.take i)))
   ⟨A1.new hdn,none,none,rfl,[],A4,by simp,by simp[Vapate.ended,Ae]⟩ (fun i σ H' h=>h.1) ?_ ?_
  ·rintro i x σ H' hx ⟨e,o1,o2,rfl,kd,hD,hlen,hS⟩
   rw[List.getElem?_map]at hx
   obtain ⟨n,hn,rfl⟩:=Option.map_eq_some_iff.1 hx
   obtain ⟨u,kk,hf,hv,hrec,hb,he⟩:=(hR.same e).some (hkn n (List.mem_of_getElem? hn))
   obtain ⟨ra,C,dx,fs,vb,ve,rfl,h1,h2,h3,h4,h5,h6,h7,⟨pe,rfl,h8⟩⟩:=hrec
   have hi:i<ss.length:=by
    rcases Nat.lt_or_ge i ss.length with h|h
    ·exact h
    ·rw[List.getElem?_eq_none h]at hn;cases hn
   trivial
   refine ⟨_,B0.k' (e _ _ hd) hv,ra,rfl,C,dx,fs,h1,h2,h4,_,h6,pe,rfl,⟨_,SqL.of h8⟩,?_⟩
   have hpd:pe≠d:=Dv h8 hD (by intro q;cases q)
   refine SC (K:=K) (a:=pe) (xs:=kk.ends.map iN) (fun j σ H2=>(A1 H H2/\H2 pe=some (.lst (kk.ends.map iN)))/\∃(o2:Option V),σ=[some (.ref a),some (.ref l),some (.ref d),some (iN n),o2]/\Lq H2 d (20*i+j) (Vapate.ended ks (ss.take i)++kk.ends.take j))
    ⟨⟨e,h8⟩,_,rfl,kd,hD,by omega,by simpa using hS⟩ (fun j σ H2 h=>SqL.of h.1.2) ?_ ?_
   ·rintro j y σ H2 hy ⟨⟨e2,p2⟩,o2,rfl,kd2,hD2,hl2,hS2⟩
    rw[List.getElem?_map]at hy
    obtain ⟨m,hm,rfl⟩:=Option.map_eq_some_iff.1 hy
    obtain ⟨q1,q2⟩:=Lq.put (H:=H2) (x:=m) (v:=V.bl true) hl2 hS2
    have hj:j<kk.ends.length:=by
     rcases Nat.lt_or_ge j kk.ends.length with h|h
     ·exact h
     ·rw[List.getElem?_eq_none h]at hm;cases hm
    have:=hel n
    rw[he]at this
    trivial
    refine ⟨_,FW.k (k:=Sum.inl ((m:Nat):Int)) hD2 (szl (by omega)),⟨A1.put e2 hdn,by rw[A8 hpd];exact p2⟩,_,A4,q1,?_⟩
    rw[Ai hm,<-List.append_assoc]
    exact q2
   ·rintro σ H2 ⟨⟨e2,p2⟩,o2,rfl,kd2,hD2,hl2,hS2⟩
    rw[List.length_map,List.take_length]at hS2
    rw[List.length_map]at hl2
    have:=hel n
    rw[he]at this
    refine ⟨e2,⟨_,_,rfl⟩,kd2,hD2,by omega,?_⟩
    rw[Ai hn,show Vapate.ended ks (ss.take i++[n])=Vapate.ended ks (ss.take i)++kk.ends by unfold Vapate.ended;rw[List.flatMap_append];simp[he]]
    exact hS2
  ·rintro σ H' ⟨e,o1,o2,rfl,hS⟩
   rw[List.length_map,List.take_length]at hS
   trivial
   obtain ⟨kd,hD,hlen,hS⟩:=hS
   exact k _ _ e ⟨kd,hD,by omega,hS⟩
end
end
section
open Vapate (Known find blockOf endsOf needsOf)
structure StP (K:PySem.W.Frag) (H:Hp) (v:V) (l:Addr) (ks:List Known) (s:List Nat) (t:VapatBase.Tree):Prop where
 rcs:O7 K H v ks
 lst:H l=some (.lst (s.map iN))
 I:Ps.CD t ks
 srt:Ps.Srt t
 up:Ps.Up s
 kn:∀n∈s,Ps.KN ks n
 el:∀n,(endsOf ks n).length<=20
theorem StP.same {K:PySem.W.Frag} {H H':Hp} {v:V} {l:Addr} {ks:List Known} {s:List Nat} {t:VapatBase.Tree} (e:A1 H H') (h:StP K H v l ks s t):StP K H' v l ks s t:=⟨h.rcs.same e,e _ _ h.lst,h.I,h.srt,h.up,h.kn,h.el⟩
theorem StP.len {K:PySem.W.Frag} {H:Hp} {v:V} {l:Addr} {ks:List Known} {s:List Nat} {t:VapatBase.Tree} (h:StP K H v l ks s t):s.length<=12:=Nat.le_trans (Ps.len_sub (Ps.BS h.up) h.kn) h.I.len
theorem JZ {α:Type} {g:α->V}:∀{l:List α} {ys:List V},Paired (fun n y=>y=g n) l ys->ys=l.map g
 |[],_,h=>by cases h;rfl
 |x::l,_,h=>by
  cases h with
  |cons r t=>rw[r,JZ t];rfl
section
variable {P:Program} {w:World} {K:PySem.W.Frag} {mg:Str->Option Value} {base:Heap}
abbrev FD:Stmt:=top 60
theorem D6:AC ["recorded","names","ended","live","name","other"] ["recorded","names"] (A7 FD):=⟨rfl,rfl,rfl,by decide+kernel,rfl,by decide+kernel,by decide+kernel⟩
def FE (K:PySem.W.Frag):Sp:=fun vs H Q _=>∃(v:V) (l:Addr) (ks:List Known) (s:List Nat) (t:VapatBase.Tree),vs=[v,.ref l]/\StP K H v l ks s t/\
 ∀H' a,A1 H H'->H' a=some (.lst ((Vapate.live ks s).map iN))->Q (.ref a) H'
theorem QK (T:Txt K mg) (D:AA K mg "live_names" FD ["recorded","names"]) (HN:OkF P w K mg base 1 "ended_names" ["recorded","names"] (Ji K)) (Ad:OkF P w K mg base 1 "names_of_row" ["row"] (Bt K)):OkF P w K mg base 2 "live_names" ["recorded","names"] (FE K):=by
 refine D.ok D6 (fun vs H Q E h=>?_) (fun f cdv A outer s H vs Q E hr h=>?_)
 ·obtain ⟨v,l,ks,s,t,rfl,_⟩:=h
  rfl
 ·obtain ⟨v,l,ks,ss,t,rfl,hP,k⟩:=h
  have hu:=Ao hr
  have hsl:=hP.len
  refine ⟨_,(A2 (AE (i:=2) D6.nd rfl (by nofun) (AD HN (hr.mono (by decide)) (A0 (pv 0) (A0 (pv 1) A3))))
   (A2 (AE (i:=3) D6.nd rfl (by nofun) (Af A3))
   (A2 (BH PassesOwn.never rfl (B4 (pv 1)) (AZ (i:=4) D6.nd rfl (by nofun))
   (A5 (AH (Bd (Bv (AN (Rk rfl) (by rfl) T.any boot_any (A0 (Gn (own:=[("other",5)]) rfl D6.nd (B4 (AD Ad (hr.mono (by decide)) (A0 (AY (C9 hu (pv 0) (pv 4) (fun _ _=>rfl)) rfl) A3))) (Ca (N:=["recorded","names","ended","live","name","other"]) (sc:=A7 FD) (by decide+kernel)) (fun _ _ _ _ _=>(AZ (i:=5) D6.nd rfl (by nofun))) (fun _ _ _ _ _=>Fc) (fun _ _ _ _ _=>(Jz (VJ hu (pv 5) (pv 2))))) A3))))
    (A5 (BE (Es PySem.F.plainAttrs_list PySem.F.slot_list_append PySem.F.type_list_append Dk (pv 3) (A0 (pv 4) A3))))
    AB)))
   (A5 (A6 (pv 3)))))),?_⟩
  trivial
  refine ⟨v,l,ks,ss,rfl,hP.rcs,hP.lst,hP.kn,by omega,hP.el,fun H1 d e1 hE=>?_⟩
  obtain ⟨kd,hD,hlD,hS⟩:=hE
  obtain ⟨a,kvs,rfl,hd,hR⟩:=(hP.same e1).rcs
  refine ⟨AX (by omega),fun c hc=>⟨⟨_,(A1.new hc).seq (SqL.of (e1 _ _ hP.lst))⟩,?_⟩⟩
  refine FX (H0:=H1) (Ay (SqL.of (e1 _ _ hP.lst))) (fun i σ H'=>A1 H1 H'/\∃(o1 o2:Option V),σ=[some (.ref a),some (.ref l),some (.ref d),some (.ref c),o1,o2]/\H' c=some (.lst (((ss.take i).filter fun n=>!(needsOf ks n).any (Vapate.ended ks ss).contains).map iN)))
   ⟨A1.new hc,none,none,rfl,by rw[A4];rfl⟩ (fun i σ H' h=>h.1) ?_ ?_
  ·rintro i x σ H' hx ⟨e,o1,o2,rfl,hy⟩
   rw[List.getElem?_map]at hx
   obtain ⟨n,hn,rfl⟩:=Option.map_eq_some_iff.1 hx
   have hkn:=hP.kn n (List.mem_of_getElem? hn)
   obtain ⟨u,kk,hf,hv,hrec,hb,he⟩:=(hR.same e).some hkn
   obtain ⟨ra,C,dx,fs,vb,ve,rfl,h1,h2,h3,h4,h5,h6,h7,-⟩:=hrec
   have hbl:=hP.I.row_len (Ps.Con.self hP.I.W hkn)
   rw[hb]at hbl
   have lt:((ss.take i).filter fun n=>!(needsOf ks n).any (Vapate.ended ks ss).contains).length<=12:=Nat.le_trans (List.length_filter_le _ _) (by rw[List.length_take];omega)
   trivial
   refine ⟨_,B0.k' (e _ _ hd) hv,ra,rfl,C,dx,fs,h1,h2,h3,_,h5,vb,kk.block,rfl,h7,by omega,fun H2 p e2 hp=>?_⟩
   have hcd:c≠d:=Dv hy (e _ _ hD) (by intro q;cases q)
   refine ⟨p,rfl,⟨_,SqL.of hp⟩,Lm K (as:=Ps.nms kk.block) (F:=fun x m=>x=iN m) (R:=fun _ m y=>y=V.bl ((Vapate.ended ks ss).contains m)) (keep:=fun _=>true) (Ay (SqL.of hp)) (E9 _) (szl (by rw[List.length_map,List.length_map];omega)) (fun _ _ _ _ _ h=>h) ?_ ?_⟩
   ·intro x m hx _ H3 e3 Qe Qn q1 _
    subst hx
    refine ⟨by simp[BQ],_,rfl,_,rfl,d,_,rfl,B0.k (k:=Sum.inl ((m:Nat):Int)) (e3 _ _ (e2 _ _ (e _ _ hD))),?_⟩
    exact q1 rfl _ _ (A1.refl _) (by rw[hS m])
   ·intro D2 H3 ys e3 hD3 hp3
    rw[DN]at hp3
    have ey:ys=((Ps.nms kk.block).map fun m=>(Vapate.ended ks ss).contains m).map V.bl:=by
     rw[List.map_map]
     exact JZ hp3
    rw[ey]at hD3
    have eA:((Ps.nms kk.block).map fun m=>(Vapate.ended ks ss).contains m).any id=(needsOf ks n).any (Vapate.ended ks ss).contains:=by
     rw[List.any_map]
     unfold needsOf
     rw[hb]
     rfl
    have hy3:=e3 _ _ (e2 _ _ hy)
    refine ⟨D2,rfl,_,SqL.of hD3,?_⟩
    rw[eA]
    cases hc2:(needsOf ks n).any (Vapate.ended ks ss).contains with
    |false=>
     refine ifT rfl ⟨.inl ⟨rfl,_,SqL.of hy3⟩,_,hy3,szl (by rw[List.length_map];omega),A1.put ((e.trans e2).trans e3) hc,?_⟩
     rw[A4,Ai hn,List.filter_append]
     simp only[List.filter_cons,hc2,Bool.not_false,if_true,List.filter_nil,List.map_append,List.map_cons,List.map_nil]
    |true=>
     refine ifF (by simp) ⟨(e.trans e2).trans e3,?_⟩
     rw[hy3,Ai hn,List.filter_append]
     simp[List.filter_cons,hc2]
  ·rintro σ H' ⟨e,o1,o2,rfl,hy⟩
   rw[List.length_map,List.take_length]at hy
   trivial
   exact k _ _ (e1.trans e) hy
end
end
section
open Vapate (Known find blockOf endsOf needsOf)
def K1 (K:PySem.W.Frag) (H:Hp) (xs:List V) (l:List (Nat×Nat)):Prop:=Paired (fun x p=>∃b,x=V.ref b/\SqT K H b [iN p.1,iN p.2]) xs l
theorem K1.t {K:PySem.W.Frag} {H H':Hp} {xs:List V} {l:List (Nat×Nat)} (e:AQ K H H') (h:K1 K H xs l):K1 K H' xs l:=L2.Paired.mapP h fun _ _ ⟨b,h1,h2⟩=>⟨b,h1,e _ _ h2⟩
theorem Pp:∀{l:List Nat} {i n:Nat},Ps.Up l->l[i]?=some n->(l.filter fun m=>decide (n<m))=l.drop (i+1)
 |[],_,_,_,h=>by simp at h
 |x::l,0,n,hu,h=>by
  have e:x=n:=by simpa using h
  subst e
  replace hu:=List.pairwise_cons.1 hu
  rw[List.filter_cons,if_neg (by simp)]
  simp only[Nat.zero_add,List.drop_succ_cons,List.drop_zero]
  exact List.filter_eq_self.2 fun m hm=>by simpa using hu.1 m hm
 |x::l,i+1,n,hu,h=>by
  replace hu:=List.pairwise_cons.1 hu
  have h':l[i]?=some n:=by simpa using h
  have:=hu.1 n (List.mem_of_getElem? h')
  rw[List.filter_cons,if_neg (by simp;omega),Pp hu.2 h']
  rfl
theorem X3 {ks:List Known} {s:List Nat} (h:Ps.Up s):Ps.Up (Vapate.live ks s):=List.Pairwise.sublist List.filter_sublist h
section
variable {P:Program} {w:World} {K:PySem.W.Frag} {mg:Str->Option Value} {base:Heap}
abbrev Do:Stmt:=top 61
theorem BN:AC ["recorded","names","live","pairs","place","name","other"] ["recorded","names"] (A7 Do):=⟨rfl,rfl,rfl,by decide+kernel,rfl,by decide+kernel,by decide+kernel⟩
def Dq (K:PySem.W.Frag):Sp:=fun vs H Q _=>∃(v:V) (l:Addr) (ks:List Known) (s:List Nat) (t:VapatBase.Tree),vs=[v,.ref l]/\StP K H v l ks s t/\
 ∀H' a xs,A1 H H'->H' a=some (.lst xs)->K1 K H' xs (Vapate.conflicts ks s)->xs.length<=200->Q (.ref a) H'
theorem K8 (T:Txt K mg) (D:AA K mg "conflicting_pairs" Do ["recorded","names"]) (Bu:OkF P w K mg base 2 "live_names" ["recorded","names"] (FE K)) (GM:OkF P w K mg base 8 "joined" ["first","second"] (L9 K)):OkF P w K mg base 9 "conflicting_pairs" ["recorded","names"] (Dq K):=by
 refine D.ok BN (fun vs H Q E h=>?_) (fun f cdv A outer s H vs Q E hr h=>?_)
 ·obtain ⟨v,l,ks,s,t,rfl,_⟩:=h
  rfl
 ·obtain ⟨v,l,ks,ss,t,rfl,hP,k⟩:=h
  have hu:=Ao hr
  have hsl:=hP.len
  refine ⟨_,(A2 (AE (i:=2) BN.nd rfl (by nofun) (AD Bu (hr.mono (by decide)) (A0 (pv 0) (A0 (pv 1) A3))))
   (A2 (AE (i:=3) BN.nd rfl (by nofun) (Af A3))
   (A2 (BH PassesOwn.never rfl (PM rfl T.enumerate (A0 (pv 2) A3)) (Ga (K:=K) (n:=2) rfl rfl (C2 (AZ (i:=4) BN.nd rfl (by nofun)) (C2 (AZ (i:=5) BN.nd rfl (by nofun)) Gc)))
   (A5 (BH PassesOwn.never rfl (B4 (Bh (r:=HZ K) Fa (pv 2) (Ba (As Bk (pv 4) A9)) D9)) (AZ (i:=6) BN.nd rfl (by nofun))
    (A5 (AH (AG (C5 (AD GM (hr.mono (by decide)) (A0 (AY (C9 hu (pv 0) (pv 5) (fun _ _=>rfl)) rfl) (A0 (AY (C9 hu (pv 0) (pv 6) (fun _ _=>rfl)) rfl) A3)))))
     (A5 (BE (Es PySem.F.plainAttrs_list PySem.F.slot_list_append PySem.F.type_list_append Dk (pv 3) (A0 (BL (A0 (pv 5) (A0 (pv 6) A3))) A3))))
     AB)))))
   (A5 (A6 (pv 3)))))),?_⟩
  trivial
  refine ⟨v,l,ks,ss,t,rfl,hP,fun H1 d e1 hD=>?_⟩
  obtain ⟨a,kvs,rfl,hd,hR⟩:=(hP.same e1).rcs
  have lvl:(Vapate.live ks ss).length<=12:=Nat.le_trans (List.length_filter_le _ _) hsl
  have hlu:=X3 (ks:=ks) hP.up
  have lkn:∀n∈Vapate.live ks ss,Ps.KN ks n:=fun n hn=>hP.kn n (Ps.Eg hn)
  have hcf:Vapate.conflicts ks ss=(Vapate.live ks ss).flatMap (fun n=>(((Vapate.live ks ss).filter fun m=>decide (n<m)).filter (Vapate.conflict ks n)).map fun m=>(n,m)):=rfl
  generalize Vapate.live ks ss=lv at*
  refine ⟨AX (by omega),fun c hc=>?_⟩
  refine ⟨d,rfl,⟨_,(A1.new hc).seq (SqL.of hD)⟩,?_⟩
  refine WQ (H0:=H1) (SqL.of hD) (fun i σ H'=>A1 H1 H'/\∃(o1 o2 o3:Option V) (xs:List V),σ=[some (.ref a),some (.ref l),some (.ref d),some (.ref c),o1,o2,o3]/\H' c=some (.lst xs)/\xs.length<=12*i/\K1 K H' xs ((lv.take i).flatMap (fun n=>((lv.filter fun m=>decide (n<m)).filter (Vapate.conflict ks n)).map fun m=>(n,m))))
   ⟨A1.new hc,none,none,none,[],rfl,A4,by simp,.nil⟩ (fun i σ H' h=>h.1) ?_ ?_
  ·rintro i x Tp σ H' hx ⟨e,o1,o2,o3,xs,rfl,hy,hxl,hxp⟩ hT
   rw[List.getElem?_map]at hx
   obtain ⟨n,hn,rfl⟩:=Option.map_eq_some_iff.1 hx
   have hkn:=lkn n (List.mem_of_getElem? hn)
   have hi:i<lv.length:=by
    rcases Nat.lt_or_ge i lv.length with h|h
    ·exact h
    ·rw[List.getElem?_eq_none h]at hn;cases hn
   have eT:A1 H' (upd H' Tp (.tup [.int (i:Nat),iN n])):=A1.new hT
   have hcut:BG (lv.map iN) (some ((i:Int)+1)) none=(lv.drop (i+1)).map iN:=by
    rw[show ((i:Int)+1)=((i+1:Nat):Int) by omega,Ro]
   trivial
   refine ⟨_,SqT.of A4,rfl,_,_,rfl,_,_,rfl,rfl,_,rfl,_,(e.trans eT).seq (SqL.of hD),fun p hp=>⟨⟨_,SqL.of A4⟩,?_⟩⟩
   rw[hcut]
   have eP:A1 (upd H' Tp (.tup [.int (i:Nat),iN n])) (upd (upd H' Tp (.tup [.int (i:Nat),iN n])) p (.lst ((lv.drop (i+1)).map iN))):=A1.new hp
   have hcp:c≠p:=AV (eT _ _ hy) hp
   refine SC (K:=K) (a:=p) (xs:=(lv.drop (i+1)).map iN) (fun j σ H2=>(A1 H1 H2/\H2 p=some (.lst ((lv.drop (i+1)).map iN)))/\∃(o3:Option V) (xs:List V),σ=[some (.ref a),some (.ref l),some (.ref d),some (.ref c),some (.int (i:Nat)),some (iN n),o3]/\H2 c=some (.lst xs)/\xs.length<=12*i+j/\
    K1 K H2 xs ((lv.take i).flatMap (fun n=>((lv.filter fun m=>decide (n<m)).filter (Vapate.conflict ks n)).map fun m=>(n,m))++(((lv.drop (i+1)).take j).filter (Vapate.conflict ks n)).map fun m=>(n,m)))
    ⟨⟨(e.trans eT).trans eP,A4⟩,_,xs,rfl,eP _ _ (eT _ _ hy),by omega,by
     simp only[List.take_zero,List.filter_nil,List.map_nil,List.append_nil]
     exact hxp.t ((AQ.of eT).trans (AQ.of eP))⟩ (fun j σ H2 h=>SqL.of h.1.2) ?_ ?_
   ·rintro j y σ H2 hy2 ⟨⟨e2,p2⟩,o3,xs2,rfl,hc2,hl2,hx2⟩
    rw[List.getElem?_map]at hy2
    obtain ⟨m,hm,rfl⟩:=Option.map_eq_some_iff.1 hy2
    have hj:j<(lv.drop (i+1)).length:=by
     rcases Nat.lt_or_ge j (lv.drop (i+1)).length with h|h
     ·exact h
     ·rw[List.getElem?_eq_none h]at hm;cases hm
    rw[List.length_drop]at hj
    have hkm:=lkn m (List.mem_of_mem_drop (List.mem_of_getElem? hm))
    obtain ⟨u1,k1,-,hv1,hrec1,hb1,-⟩:=(hR.same e2).some hkn
    obtain ⟨ra,C,dx,fs,vb,ve,rfl,h1,h2,h3,h4,h5,h6,h7,-⟩:=hrec1
    obtain ⟨u2,k2,-,hv2,hrec2,hb2,-⟩:=(hR.same e2).some hkm
    obtain ⟨ra',C',dx',fs',vb',ve',rfl,h1',h2',h3',h4',h5',h6',h7',-⟩:=hrec2
    have l1:=hP.I.row_len (Ps.Con.self hP.I.W hkn)
    have l2:=hP.I.row_len (Ps.Con.self hP.I.W hkm)
    have g1:=hP.I.good n hkn
    have g2:=hP.I.good m hkm
    have n1:=hP.I.W.nodup n hkn
    have n2:=hP.I.W.nodup m hkm
    have hcj:=hP.I.conflict hkn hkm
    rw[hb1]at l1 g1 n1 hcj
    rw[hb2]at l2 g2 n2 hcj
    trivial
    refine ⟨_,B0.k' (e2 _ _ hd) hv1,ra,rfl,C,dx,fs,h1,h2,h3,_,h5,_,B0.k' (e2 _ _ hd) hv2,ra',rfl,C',dx',fs',h1',h2',h3',_,h5',vb,vb',k1.block,k2.block,rfl,h7,h7',g1,g2,by omega,by omega,n1,n2,fun H3 y e3 h9=>?_⟩
    have hc3:=e3 _ _ hc2
    cases hjn:Ps.jn k1.block k2.block with
    |none=>
     rw[hjn]at h9 hcj
     refine ifT h9 ⟨.inl ⟨rfl,_,SqL.of hc3⟩,AX (by omega),fun q hq=>?_⟩
     have eQ:A1 H3 (upd H3 q (.tup [iN n,iN m])):=A1.new hq
     have hcq:c≠q:=AV hc3 hq
     have t1:AQ K (upd H3 q (.tup [iN n,iN m])) (upd (upd H3 q (.tup [iN n,iN m])) c (.lst (xs2++[.ref q]))):=AQ.lst (eQ _ _ hc3)
     refine ⟨_,eQ _ _ hc3,szl (by omega),⟨A1.put ((e2.trans e3).trans eQ) hc,?_⟩,_,A4,by simp;omega,?_⟩
     ·rw[A8 hcp.symm]
      exact eQ _ _ (e3 _ _ p2)
     ·rw[Ai hm,List.filter_append,List.filter_cons,hcj]
      simp only[Option.isNone_none,if_true,List.filter_nil,List.map_append,List.map_cons,List.map_nil]
      rw[<-List.append_assoc]
      exact DM (hx2.t (((AQ.of e3).trans (AQ.of eQ)).trans t1)) ⟨q,rfl,t1 _ _ (SqT.of A4)⟩
    |some J=>
     rw[hjn]at h9 hcj
     obtain ⟨pz,xz,rfl,-⟩:=h9
     refine ifF (fun z=>nomatch z) ⟨⟨e2.trans e3,e3 _ _ p2⟩,xs2,hc3,by omega,?_⟩
     rw[Ai hm,List.filter_append,List.filter_cons,hcj]
     simp only[Option.isNone_some,Bool.false_eq_true,if_false,List.filter_nil,List.append_nil]
     exact hx2.t (AQ.of e3)
   ·rintro σ H2 ⟨⟨e2,p2⟩,o3,xs2,rfl,hc2,hl2,hx2⟩
    rw[List.length_map,List.take_length]at hx2
    rw[List.length_map,List.length_drop]at hl2
    refine ⟨e2,⟨_,_,_,rfl⟩,xs2,hc2,by omega,?_⟩
    rw[Ai hn,List.flatMap_append]
    simp only[List.flatMap_cons,List.flatMap_nil,List.append_nil]
    rw[Pp hlu hn]
    exact hx2
  ·rintro σ H' ⟨e,o1,o2,o3,xs,rfl,hy,hxl,hxp⟩
   rw[List.length_map,List.take_length]at hxp
   rw[List.length_map]at hxl
   trivial
   exact k _ _ xs (e1.trans e) hy (by rw[hcf];exact hxp) (by omega)
end
end
section
open Vapate (Known find blockOf endsOf needsOf)
theorem WK (c:List (Nat×Nat)) (n:Nat):(c.flatMap fun p=>[p.1,p.2]).contains n=c.any fun x=>x.1==n||x.2==n:=by
 induction c with
 |nil=>rfl
 |cons p c ih=>
  rw[List.flatMap_cons,List.any_cons,<-ih]
  simp only[List.contains_eq_mem,List.cons_append,List.nil_append,List.mem_cons]
  by_cases h1:p.1=n
  ·simp[h1]
  ·by_cases h2:p.2=n
   ·simp[h2]
   ·simp[h1,h2,Ne.symm h1,Ne.symm h2]
section
variable {P:Program} {w:World} {K:PySem.W.Frag} {mg:Str->Option Value} {base:Heap}
abbrev EK:Stmt:=top 62
theorem CW:AC ["recorded","names","conflicting","name","other"] ["recorded","names"] (A7 EK):=⟨rfl,rfl,rfl,by decide+kernel,rfl,by decide+kernel,by decide+kernel⟩
def Fq (K:PySem.W.Frag):Sp:=fun vs H Q _=>∃(v:V) (l:Addr) (ks:List Known) (s:List Nat) (t:VapatBase.Tree),vs=[v,.ref l]/\StP K H v l ks s t/\
 ∀H' a,A1 H H'->H' a=some (.lst ((Vapate.acting ks s).map iN))->Q (.ref a) H'
theorem Ni (T:Txt K mg) (D:AA K mg "acting_names" EK ["recorded","names"]) (Bu:OkF P w K mg base 2 "live_names" ["recorded","names"] (FE K)) (BY:OkF P w K mg base 9 "conflicting_pairs" ["recorded","names"] (Dq K)):OkF P w K mg base 10 "acting_names" ["recorded","names"] (Fq K):=by
 refine D.ok CW (fun vs H Q E h=>?_) (fun f cdv A outer s H vs Q E hr h=>?_)
 ·obtain ⟨v,l,ks,s,t,rfl,_⟩:=h
  rfl
 ·obtain ⟨v,l,ks,ss,t,rfl,hP,k⟩:=h
  have hu:=Ao hr
  have hsl:=hP.len
  refine ⟨_,(A2 (AE (i:=2) CW.nd rfl (by nofun) Ge)
   (A2 (BH PassesOwn.never rfl (B4 (AD BY (hr.mono (by decide)) (A0 (pv 0) (A0 (pv 1) A3)))) (Ga (K:=K) (n:=2) rfl rfl (C2 (AZ (i:=3) CW.nd rfl (by nofun)) (C2 (AZ (i:=4) CW.nd rfl (by nofun)) Gc)))
   (A2 (DZ hu (pv 2) (pv 3) JA rfl)
    (A5 (DZ hu (pv 2) (pv 4) JA rfl))))
   (A5 (A6 (Gn (own:=[("name",3)]) rfl CW.nd (B4 (AD Bu (hr.mono (by decide)) (A0 (pv 0) (A0 (pv 1) A3)))) (Ca (N:=["recorded","names","conflicting","name","other"]) (sc:=A7 EK) (by decide+kernel)) (fun _ _ _ _ _=>(AZ (i:=3) CW.nd rfl (by nofun))) (fun _ _ _ _ _=>(ML (AG (Ci hu (pv 3) (pv 2))))) (fun _ _ _ _ _=>(pv 3))))))),?_⟩
  trivial
  intro d hdn
  have e0:A1 H (upd H d (.dK [])):=A1.new hdn
  refine ⟨v,l,ks,ss,t,rfl,hP.same e0,fun H1 pa xs e1 hpa hxs hxl=>⟨pa,rfl,⟨_,SqL.of hpa⟩,?_⟩⟩
  have hpd:pa≠d:=Dv hpa (e1 _ _ A4) (by intro q;cases q)
  have e01:=e0.trans e1
  have lx:xs.length=(Vapate.conflicts ks ss).length:=Paired.length hxs
  refine SC (K:=K) (a:=pa) (xs:=xs) (fun i σ H'=>(A1 H H'/\H' pa=some (.lst xs)/\AQ K H1 H')/\∃(o1 o2:Option V),σ=[some v,some (.ref l),some (.ref d),o1,o2]/\Lq H' d (2*i) (((Vapate.conflicts ks ss).take i).flatMap fun p=>[p.1,p.2]))
   ⟨⟨e01,hpa,fun _ _ h=>h⟩,none,none,rfl,[],e1 _ _ A4,by simp,by simp[Ae]⟩ (fun i σ H' h=>SqL.of h.1.2.1) ?_ ?_
  ·rintro i x σ H' hx ⟨⟨e,hp2,ht⟩,o1,o2,rfl,kd,hD,hlen,hS⟩
   obtain ⟨p,hp,b,rfl,hb⟩:=By hxs hx
   have hb':=ht _ _ hb
   have hi:i<xs.length:=by
    rcases Nat.lt_or_ge i xs.length with h|h
    ·exact h
    ·rw[List.getElem?_eq_none h]at hx;cases hx
   obtain ⟨q1,q2⟩:=Lq.put (H:=H') (x:=p.1) (v:=V.bl true) hlen hS
   obtain ⟨q3,q4⟩:=Lq.put (H:=H') (x:=p.2) (v:=V.bl true) q1 q2
   trivial
   refine ⟨_,hb',rfl,_,_,rfl,_,_,rfl,rfl,_,FW.k (k:=Sum.inl ((p.1:Nat):Int)) hD (szl (by omega)),_,FW.k (k:=Sum.inl ((p.2:Nat):Int)) A4 (szl (by omega)),?_⟩
   rw[C7]
   refine ⟨⟨A1.put e hdn,?_,?_⟩,_,A4,by omega,?_⟩
   ·rw[A8 hpd];exact hp2
   ·exact AQ.trans ht (AQ.dK hD)
   ·rw[Ai hp,List.flatMap_append]
    simp only[List.flatMap_cons,List.flatMap_nil,List.append_nil]
    intro n
    rw[q4 n,List.append_assoc]
    rfl
  ·rintro σ H' ⟨⟨e,hp2,ht⟩,o1,o2,rfl,kd,hD,hlen,hS⟩
   rw[lx,List.take_length]at hS
   trivial
   refine ⟨v,l,ks,ss,t,rfl,hP.same e,fun H2 la e2 hla=>⟨la,rfl,⟨_,SqL.of hla⟩,?_⟩⟩
   have hD2:=e2 _ _ hD
   have lv12:(Vapate.live ks ss).length<=12:=Nat.le_trans (List.length_filter_le _ _) hsl
   refine Lm K (as:=Vapate.live ks ss) (F:=fun x n=>x=iN n) (R:=fun _ n y=>y=iN n) (keep:=fun n=>!(Vapate.conflicts ks ss).any fun x=>x.1==n||x.2==n) (Ay (SqL.of hla)) (E9 _) (szl (by rw[List.length_map];omega)) (fun _ _ _ _ _ h=>h) ?_ ?_
   ·intro x n hx _ H3 e3 Qe Qn q1 q2
    subst hx
    refine ⟨by simp[BQ],_,rfl,_,rfl,d,_,rfl,B0.k (k:=Sum.inl ((n:Nat):Int)) (e3 _ _ hD2),_,rfl,?_⟩
    rw[hS n,WK]
    cases hc:(Vapate.conflicts ks ss).any fun x=>x.1==n||x.2==n with
    |true=>exact ifF (by simp) (q2 (by simp only[hc];rfl) _ (A1.refl _))
    |false=>exact ifT rfl ⟨_,rfl,q1 (by simp only[hc];rfl) _ _ (A1.refl _) rfl⟩
   ·intro D3 H3 ys e3 hD3 hp3
    have ey:ys=(Vapate.acting ks ss).map iN:=Df hp3
    rw[ey]at hD3
    exact k _ _ ((e.trans e2).trans e3) hD3
abbrev IP:Stmt:=top 63
theorem Fs:AC ["recorded","names","row","name"] ["recorded","names"] (A7 IP):=⟨rfl,rfl,rfl,by decide+kernel,rfl,by decide+kernel,by decide+kernel⟩
def IQ (K:PySem.W.Frag):Sp:=fun vs H Q _=>∃(v:V) (l:Addr) (ks:List Known) (s:List Nat) (t:VapatBase.Tree),vs=[v,.ref l]/\StP K H v l ks s t/\
 ∀H' y,A1 H H'->BA K H' y (Vapate.rowOf ks s)->Q y H'
theorem RF (T:Txt K mg) (D:AA K mg "store_row" IP ["recorded","names"]) (Ck:OkF P w K mg base 10 "acting_names" ["recorded","names"] (Fq K)) (GM:OkF P w K mg base 8 "joined" ["first","second"] (L9 K)) (K9:OkF P w K mg base 8 "one_form" ["row"] (Md K)):OkF P w K mg base 11 "store_row" ["recorded","names"] (IQ K):=by
 refine D.ok Fs (fun vs H Q E h=>?_) (fun f cdv A outer s H vs Q E hr h=>?_)
 ·obtain ⟨v,l,ks,s,t,rfl,_⟩:=h
  rfl
 ·obtain ⟨v,l,ks,ss,t,rfl,hP,k⟩:=h
  have hu:=Ao hr
  have hsl:=hP.len
  refine ⟨_,(A2 (AE (i:=2) Fs.nd rfl (by nofun) (Af A3))
   (A2 (BH PassesOwn.never rfl (B4 (AD Ck (hr.mono (by decide)) (A0 (pv 0) (A0 (pv 1) A3)))) (AZ (i:=3) Fs.nd rfl (by nofun))
   (A5 (AE (i:=2) Fs.nd rfl (by nofun) (AD GM (hr.mono (by decide)) (A0 (pv 2) (A0 (AY (C9 hu (pv 0) (pv 3) (fun _ _=>rfl)) rfl) A3))))))
   (A5 (A6 (AD K9 (hr.mono (by decide)) (A0 (pv 2) A3)))))),?_⟩
  trivial
  refine ⟨AX (by omega),fun c hc=>?_⟩
  have e0:A1 H (upd H c (.lst [])):=A1.new hc
  refine ⟨v,l,ks,ss,t,rfl,hP.same e0,fun H1 pa e1 hpa=>⟨pa,rfl,⟨_,SqL.of hpa⟩,?_⟩⟩
  have e01:=e0.trans e1
  obtain ⟨a,kvs,rfl,hd,hR⟩:=(hP.same e01).rcs
  have hkn:∀n∈Vapate.acting ks ss,Ps.KN ks n:=fun n hn=>hP.kn n (Ps.Eg (Ps.Br hn))
  have hub:∀n∈Vapate.acting ks ss,∀m∈Vapate.acting ks ss,Ps.Ub (blockOf ks m) (blockOf ks n):=fun n hn m hm=>Ps.Q7 hP.I hP.kn hn hm
  have hRow:∀i,Ps.Hu t ks ((Vapate.acting ks ss).take i) (Ps.DE ks ((Vapate.acting ks ss).take i)):=fun i=>Ps.TJ hP.srt hP.I _ rfl (fun m hm=>hkn m (List.mem_of_mem_take hm)) (fun n hn m hm=>hub n (List.mem_of_mem_take hn) m (List.mem_of_mem_take hm))
  have hfin:Vapate.rowOf ks ss=Vapatc.form (Ps.DE ks (Vapate.acting ks ss)):=Ps.W9 ks ss
  generalize Vapate.acting ks ss=ac at*
  refine FX (H0:=H1) (Ay (SqL.of hpa)) (fun i σ H'=>A1 H1 H'/\∃(y:V) (o1:Option V),σ=[some (.ref a),some (.ref l),some y,o1]/\BA K H' y (Ps.DE ks (ac.take i)))
   ⟨A1.refl _,_,none,rfl,c,[],rfl,e1 _ _ A4,.nil⟩ (fun i σ H' h=>h.1) ?_ ?_
  ·rintro i x σ H' hx ⟨e,y,o1,rfl,hy⟩
   rw[List.getElem?_map]at hx
   obtain ⟨n,hn,rfl⟩:=Option.map_eq_some_iff.1 hx
   have hna:=List.mem_of_getElem? hn
   obtain ⟨u1,k1,-,hv1,hrec1,hb1,-⟩:=(hR.same e).some (hkn n hna)
   obtain ⟨ra,C,dx,fs,vb,ve,rfl,h1,h2,h3,h4,h5,h6,h7,-⟩:=hrec1
   obtain ⟨hj,-⟩:=Ps.SO hP.srt hP.I (l:=ac.take i) (fun m hm=>hkn m (List.mem_of_mem_take hm)) (hkn n hna) (fun m hm=>hub n hna m (List.mem_of_mem_take hm)) (hRow i)
   have l1:=hP.I.row_len (Ps.Con.self hP.I.W (hkn n hna))
   have g1:=hP.I.good n (hkn n hna)
   have n1:=hP.I.W.nodup n (hkn n hna)
   have l2:=hP.I.row_len (hRow i).con
   rw[hb1]at l1 g1 n1 hj
   trivial
   refine ⟨_,B0.k' (e _ _ hd) hv1,ra,rfl,C,dx,fs,h1,h2,h3,_,h5,y,vb,_,k1.block,rfl,hy,h7,(hRow i).good,g1,by omega,by omega,(hRow i).con.1,n1,fun H3 z e3 h9=>?_⟩
   rw[hj]at h9
   refine ⟨e.trans e3,?_⟩
   rw[Ai hn]
   exact h9
  ·rintro σ H' ⟨e,y,o1,rfl,hy⟩
   rw[List.length_map]at hy
   have hR0:=hRow ac.length
   rw[List.take_length]at hy hR0
   have l2:=hP.I.row_len hR0.con
   trivial
   refine ⟨y,_,rfl,hy,hR0.good,by omega,hR0.con.1,fun H3 z e3 h9=>k _ _ ((e01.trans e).trans e3) ?_⟩
   rw[hfin]
   exact h9
end
end
section
theorem Gf {f:Str} {v y:V}:∀{fs:List (Str×V)},fs.lookup f=some v->(AW f y fs).length=fs.length
 |[],h=>by simp at h
 |(g,x)::r,h=>by
  unfold AW
  by_cases e:g=f
  ·rw[if_pos e];rfl
  ·rw[if_neg e,List.length_cons,List.length_cons]
   rw[List.lookup_cons]at h
   rw[Gf (fs:=r) (by
    have:(f==g)=false:=by simp[Ne.symm e]
    rw[this]at h
    exact h)]
theorem Eo {f:Str} {y:V}:∀{fs:List (Str×V)},(AW f y fs).length<=fs.length+1
 |[]=>by simp[AW]
 |(g,x)::r=>by
  unfold AW
  split
  ·simp
  ·have:=Eo (f:=f) (y:=y) (fs:=r)
   simp only[List.length_cons]
   omega
theorem Vl {K:PySem.W.Frag} {H H':Hp} {r a C dx:Addr} {fs:List (Str×V)} {xs:List V} (b:But (·=r) H H') (h:H r=some (.ins C dx fs)) (q:SqL K H a xs):SqL K H' a xs:=by
 rcases q with (q|⟨o,q⟩)|q
 ·exact .inl (.inl (b _ _ q (fun e=>by subst e;rw[h]at q;cases q)))
 ·exact .inl (.inr ⟨o,b _ _ q (fun e=>by subst e;rw[h]at q;cases q)⟩)
 ·exact .inr q
structure RdF (a:Addr) (p:Int) (fs:List (Str×V)):Prop where
 num:fs.lookup ("numbers":Str)=some (.ref a)
 plc:fs.lookup ("place":Str)=some (.int p)
 m1:fs.lookup ("has_more":Str)=none
 m2:fs.lookup ("take":Str)=none
 m3:fs.lookup ("take_list":Str)=none
 len:fs.length<=10
def RdV (C:Addr) (H:Hp) (r a:Addr) (p:Int):Prop:=∃dx fs,H r=some (.ins C dx fs)/\RdF a p fs
theorem RdF.put {a:Addr} {p q:Int} {fs:List (Str×V)} (h:RdF a p fs):RdF a q (AW "place" (.int q) fs) where
 num:=by rw[B8,if_neg (by decide)];exact h.num
 plc:=by rw[B8,if_pos rfl]
 m1:=by rw[B8,if_neg (by decide)];exact h.m1
 m2:=by rw[B8,if_neg (by decide)];exact h.m2
 m3:=by rw[B8,if_neg (by decide)];exact h.m3
 len:=by rw[Gf h.plc];exact h.len
structure ClR (K:PySem.W.Frag) (C:Addr):Prop where
 cl:Cls K C
 num:B7 K C "numbers"
 plc:B7 K C "place"
section
variable {P:Program} {w:World} {K:PySem.W.Frag} {mg:Str->Option Value} {base:Heap} {C:Addr}
abbrev EW:Stmt:=D7 (top 120) 0
theorem LK:AC ["self","numbers"] ["self","numbers"] (A7 EW):=⟨rfl,rfl,rfl,by decide+kernel,rfl,by decide+kernel,by decide+kernel⟩
def Jj (C:Addr):Sp:=fun vs H Q _=>∃(r a dx:Addr),vs=[.ref r,.ref a]/\H r=some (.ins C dx [])/\∀H',But (·=r) H H'->RdV C H' r a 0->Q .non H'
theorem Om (cR:ClR K C) (D:Ed K mg C "Reader" "Reader.__init__" EW ["self","numbers"]):OkI P w K mg base 1 C "Reader" ["self","numbers"] (Jj C):=by
 refine D.ok LK (fun vs H Q E h=>?_) (fun f cdv A outer s H vs Q E hr h=>?_)
 ·obtain ⟨r,a,dx,rfl,_⟩:=h
  rfl
 ·obtain ⟨r,a,dx,rfl,hH,k⟩:=h
  refine ⟨_,(A2 (FC (pv 0) (pv 1) rfl)
   (A5 (FC (pv 0) A9 rfl))),?_⟩
  trivial
  refine ⟨C,dx,[],hH,cR.cl,cR.num,by decide,C,dx,_,A4,cR.cl,cR.plc,Nat.lt_of_le_of_lt Eo (by decide),?_⟩
  rw[C7]
  exact k _ (But.upd rfl) ⟨dx,_,A4,by ac_rfl,by ac_rfl,by ac_rfl,by ac_rfl,by ac_rfl,Nat.le_trans Eo (Nat.succ_le_succ (Nat.le_trans Eo (by decide)))⟩
abbrev EX:Stmt:=D7 (top 120) 1
theorem LL:AC ["self"] ["self"] (A7 EX):=⟨rfl,rfl,rfl,by decide+kernel,rfl,by decide+kernel,by decide+kernel⟩
def Gw (K:PySem.W.Frag) (C:Addr):Sp:=fun vs H Q _=>∃(r a:Addr) (j:Nat) (ns:List Int),vs=[.ref r]/\RdV C H r a j/\SqL K H a (ns.map V.int)/\Q (.bl (decide (j<ns.length))) H
theorem LM (T:Txt K mg) (cR:ClR K C) (D:MethAt K C "has_more" "Reader.has_more" EX ["self"]):OkM P w K mg base 1 C "has_more" ["self"] (Gw K C):=by
 refine D.ok LL (fun vs H Q E h=>?_) (fun f cdv A outer s H vs Q E hr h=>?_)
 ·obtain ⟨r,a,j,ns,rfl,_⟩:=h
  rfl
 ·obtain ⟨r,a,j,ns,rfl,⟨dx,fs,hH,hF⟩,hS,k⟩:=h
  refine ⟨_,(A5 (A6 (Jy Qs (AY (pv 0) rfl) (AN AJ (by rfl) T.len PySem.boot_len (A0 (AY (pv 0) rfl) A3)) (DI _)))),?_⟩
  trivial
  refine ⟨C,dx,fs,hH,cR.cl,cR.plc,_,hF.plc,C,dx,fs,hH,cR.cl,cR.num,_,hF.num,a,rfl,_,.inl hS,_,rfl,?_⟩
  rw[List.length_map]
  have e:decide ((j:Int)<((ns.length:Nat):Int))=decide (j<ns.length):=by
   by_cases h:j<ns.length
   ·rw[decide_eq_true h,decide_eq_true (by omega)]
   ·rw[decide_eq_false h,decide_eq_false (by omega)]
  rw[e]
  exact k
abbrev GN:Stmt:=D7 (top 120) 2
theorem Jk:AC ["self","number"] ["self"] (A7 GN):=⟨rfl,rfl,rfl,by decide+kernel,rfl,by decide+kernel,by decide+kernel⟩
def Cm (K:PySem.W.Frag) (C:Addr):Sp:=fun vs H Q _=>∃(r a:Addr) (j:Nat) (ns:List Int) (z:Int),vs=[.ref r]/\RdV C H r a j/\SqL K H a (ns.map V.int)/\ns[j]?=some z/\∀H',But (·=r) H H'->RdV C H' r a ((j+1:Nat):Int)->Q (.int z) H'
theorem On (cR:ClR K C) (D:MethAt K C "take" "Reader.take" GN ["self"]):OkM P w K mg base 1 C "take" ["self"] (Cm K C):=by
 refine D.ok Jk (fun vs H Q E h=>?_) (fun f cdv A outer s H vs Q E hr h=>?_)
 ·obtain ⟨r,a,j,ns,z,rfl,_⟩:=h
  rfl
 ·obtain ⟨r,a,j,ns,z,rfl,⟨dx,fs,hH,hF⟩,hS,hz,k⟩:=h
  refine ⟨_,(A2 (AE (i:=1) Jk.nd rfl (by nofun) (AF (r:=B6 K) Ak (AY (pv 0) rfl) (AY (pv 0) rfl) (fun _ _=>rfl)))
   (A2 (FC (pv 0) (As Bk (AY (pv 0) rfl) A9) rfl)
   (A5 (A6 (pv 1))))),?_⟩
  trivial
  refine ⟨C,dx,fs,hH,cR.cl,cR.num,_,hF.num,C,dx,fs,hH,cR.cl,cR.plc,_,hF.plc,a,rfl,_,_,rfl,hS,.int z,CA (by rw[List.getElem?_map,hz];rfl),?_⟩
  refine ⟨C,dx,fs,hH,cR.cl,cR.plc,_,hF.plc,_,rfl,C,dx,fs,hH,cR.cl,cR.plc,by have:=hF.len;omega,?_⟩
  exact k _ (But.upd rfl) ⟨dx,_,A4,by have:=hF.put (q:=((j+1:Nat):Int));exact this⟩
abbrev EE:Stmt:=D7 (top 120) 3
theorem EF:AC ["self","count","taken"] ["self"] (A7 EE):=⟨rfl,rfl,rfl,by decide+kernel,rfl,by decide+kernel,by decide+kernel⟩
def D1 (K:PySem.W.Frag) (C:Addr):Sp:=fun vs H Q _=>∃(r a:Addr) (j:Nat) (ns x t:List Int),vs=[.ref r]/\RdV C H r a j/\SqL K H a (ns.map V.int)/\ns.length<=5000/\PyFlat.row (ns.drop j)=some (x,t)/\
 ∀H' q j',But (·=r) H H'->RdV C H' r a ((j':Nat):Int)->ns.drop j'=t->H' q=some (.lst (x.map V.int))->H q=none->Q (.ref q) H'
theorem Kz (cR:ClR K C) (D:MethAt K C "take_list" "Reader.take_list" EE ["self"]) (Ah:OkM P w K mg base 1 C "take" ["self"] (Cm K C)):OkM P w K mg base 2 C "take_list" ["self"] (D1 K C):=by
 have Au:=cR.cl
 refine D.ok EF (fun vs H Q E h=>?_) (fun f cdv A outer s H vs Q E hr h=>?_)
 ·obtain ⟨r,a,j,ns,x,t,rfl,_⟩:=h
  rfl
 ·obtain ⟨r,a,j,ns,x,t,rfl,hV,hS,hlen,hrow,k⟩:=h
  refine ⟨_,(A2 (AE (i:=1) EF.nd rfl (by nofun) (Cc Ah Au (hr.mono (by decide)) (pv 0)))
   (A2 (AE (i:=2) EF.nd rfl (by nofun) (Bh (r:=HZ K) Fa (AY (pv 0) rfl) (Ba (AY (pv 0) rfl)) (Ba (As Bk (AY (pv 0) rfl) (pv 1)))))
   (A2 (FC (pv 0) (As Bk (AY (pv 0) rfl) (pv 1)) rfl)
   (A5 (A6 (pv 2)))))),?_⟩
  trivial
  obtain ⟨dx,fs,hH,hF⟩:=id hV
  unfold PyFlat.row at hrow
  cases hd:ns.drop j with
  |nil=>rw[hd]at hrow;cases hrow
  |cons n rs=>
   rw[hd]at hrow
   simp only at hrow
   split at hrow
   next hn=>
    cases hrow
    have hj:j<ns.length:=by
     rcases Nat.lt_or_ge j ns.length with h|h
     ·exact h
     ·rw[List.drop_eq_nil_of_le h]at hd;cases hd
    have hnj:ns[j]?=some n:=by
     have:=congrArg List.head? hd
     rw[List.head?_drop]at this
     simpa using this
    have hrs:ns.drop (j+1)=rs:=by
     have:=congrArg List.tail hd
     rw[List.tail_drop]at this
     simpa using this
    have lrs:rs.length=ns.length - (j+1):=by rw[<-hrs,List.length_drop]
    refine ⟨dx,fs,hH,hF.m2,r,a,j,ns,n,rfl,hV,hS,hnj,fun H1 b1 hV1=>?_⟩
    obtain ⟨dx1,fs1,hH1,hF1⟩:=hV1
    have hS1:=Vl b1 hH hS
    refine ⟨C,dx1,fs1,hH1,cR.cl,cR.num,_,hF1.num,C,dx1,fs1,hH1,cR.cl,cR.plc,_,hF1.plc,_,rfl,C,dx1,fs1,hH1,cR.cl,cR.plc,_,hF1.plc,_,rfl,n,rfl,a,rfl,_,hS1,fun q hq=>?_⟩
    have hqr:q≠r:=fun e=>by subst e;rw[hH1]at hq;cases hq
    have hq0:H q=none:=by
     cases h0:H q with
     |none=>rfl
     |some o=>rw[b1 q o h0 hqr]at hq;cases hq
    have ec:BG (ns.map V.int) (some ((j+1:Nat):Int)) (some (((j+1:Nat):Int)+n))=(rs.take n.toNat).map V.int:=by
     rw[TW (a:=j+1) (b:=j+1+n.toNat) (by omega) (by omega) (by simp;omega) (by simp;omega),<-List.map_drop,<-List.map_take,hrs]
     simp
    rw[ec]
    have eQ:A1 H1 (upd H1 q (.lst ((rs.take n.toNat).map V.int))):=A1.new hq
    have hH2:=eQ _ _ hH1
    refine ⟨C,dx1,fs1,hH2,cR.cl,cR.plc,_,hF1.plc,_,rfl,_,rfl,C,dx1,fs1,hH2,cR.cl,cR.plc,by have:=hF1.len;omega,?_⟩
    refine k _ q (j+1+n.toNat) ((b1.trans (A1.but eQ)).trans (But.upd rfl)) ⟨dx1,_,A4,?_⟩ ?_ ?_ hq0
    ·have:=hF1.put (q:=((j+1+n.toNat:Nat):Int))
     rw[show ((j+1:Nat):Int)+n=((j+1+n.toNat:Nat):Int) by omega]
     exact this
    ·rw[<-hrs,List.drop_drop]
    ·rw[A8 hqr]
     exact A4
   ·cases hrow
end
end
section
open Vapate (Known find blockOf endsOf needsOf)
structure BJ (K:PySem.W.Frag) (mg:Str->Option Value):Prop extends Wj K mg where
 STORES:∃t,mg "STORES"=some (.int 3 t)
 MOST_RECORDED:∃t,mg "MOST_RECORDED"=some (.int 12 t)
 MOST_PATCH_NAME:∃t,mg "MOST_PATCH_NAME"=some (.int 99 t)
 NOT_WHOLE:∃t,mg "NOT_WHOLE"=some (.int (-1) t)
 NO_SUCH_STORE:∃t,mg "NO_SUCH_STORE"=some (.int (-2) t)
 NAME_REFUSED:∃t,mg "NAME_REFUSED"=some (.int (-3) t)
 DOES_NOT_FIT:∃t,mg "DOES_NOT_FIT"=some (.int (-4) t)
 ENDS_REFUSED:∃t,mg "ENDS_REFUSED"=some (.int (-5) t)
 TOO_MANY_PATCHES:∃t,mg "TOO_MANY_PATCHES"=some (.int (-6) t)
 ENDS_ITS_OWN_NEED:∃t,mg "ENDS_ITS_OWN_NEED"=some (.int (-7) t)
 NO_TREE:∃t,mg "NO_TREE"=some (.int (-8) t)
 NOT_LIVE:∃t,mg "NOT_LIVE"=some (.int 1 t)
 IN_CONFLICT:∃t,mg "IN_CONFLICT"=some (.int 2 t)
 MOST_TAG:∃t,mg "MOST_TAG"=some (.int 3 t)
 TAG_REFUSED:∃t,mg "TAG_REFUSED"=some (.int (-5) t)
 TREE:∃t,mg "TREE"=some (.int 0 t)
 RECORD:∃t,mg "RECORD"=some (.int 1 t)
 KNOWN:∃t,mg "KNOWN"=some (.int 2 t)
 ROW:∃t,mg "ROW"=some (.int 3 t)
 OUTCOME:∃t,mg "OUTCOME"=some (.int 4 t)
 CONFLICTS:∃t,mg "CONFLICTS"=some (.int 5 t)
 IDLE:∃t,mg "IDLE"=some (.int 6 t)
 BLOCK:∃t,mg "BLOCK"=some (.int 7 t)
 BRING:∃t,mg "BRING"=some (.int 8 t)
 PULL:∃t,mg "PULL"=some (.int 9 t)
 FORGET:∃t,mg "FORGET"=some (.int 10 t)
 TAG:∃t,mg "TAG"=some (.int 11 t)
 AT:∃t,mg "AT"=some (.int 12 t)
 BACK:∃t,mg "BACK"=some (.int 13 t)
 ALIKE:∃t,mg "ALIKE"=some (.int 14 t)
open Classical in
noncomputable def CH (S:Addr->Prop) (H:Hp):Hp:=fun b=>if S b then none else H b
theorem Ep {S:Addr->Prop} {H:Hp} {b:Addr} (h:¬S b):CH S H b=H b:=by unfold CH;rw[if_neg h]
theorem Pr {S:Addr->Prop} {H:Hp} {b:Addr} {o:HO} (h:CH S H b=some o):¬S b/\H b=some o:=by
 by_cases hs:S b
 ·unfold CH at h
  rw[if_pos hs]at h
  cases h
 ·rw[Ep hs]at h
  exact ⟨hs,h⟩
theorem Ch {S:Addr->Prop} {H:Hp}:A1 (CH S H) H:=fun b o h=>(Pr h).2
theorem Ik {S S':Addr->Prop} {H H':Hp} (hS:∀b o,H b=some o->S' b->S b) (e:But S H H'):A1 (CH S H) (CH S' H'):=fun b o h=>by
 obtain ⟨h1,h2⟩:=Pr h
 rw[Ep fun q=>h1 (hS b o h2 q)]
 exact e b o h2 h1
def Mut (o:HO):Prop:=(∃xs,o=.lst xs)\/(∃kv,o=.dK kv)\/∃C dx fs,o=.ins C dx fs
theorem Vp {K:PySem.W.Frag} {S:Addr->Prop} {H:Hp} (h:∀b,S b->∃o,H b=some o/\Mut o):AQ K H (CH S H):=by
 intro b xs q
 have key:∀{o:HO},H b=some o->¬Mut o->CH S H b=some o:=by
  intro o e n
  rw[Ep]
  ·exact e
  ·intro s
   obtain ⟨o',e',m⟩:=h b s
   rw[e]at e'
   cases e'
   exact n m
 rcases q with (q|⟨p,q⟩)|q
 ·refine .inl (.inl (key q ?_))
  rintro (⟨_,e⟩|⟨_,e⟩|⟨_,_,_,e⟩)<;>cases e
 ·refine .inl (.inr ⟨p,key q ?_⟩)
  rintro (⟨_,e⟩|⟨_,e⟩|⟨_,_,_,e⟩)<;>cases e
 ·exact .inr q
def Bm (S:Addr->Prop) (H H':Hp):Prop:=∀b o,H b=some o->¬S b->(∀kv,o≠.dK kv)->H' b=some o
theorem Bm.trans {S:Addr->Prop} {H H1 H2:Hp} (a:Bm S H H1) (b:Bm S H1 H2):Bm S H H2:=fun c o h n m=>b c o (a c o h n m) n m
theorem A1.stay {S:Addr->Prop} {H H':Hp} (e:A1 H H'):Bm S H H':=fun b o h _ _=>e b o h
theorem But.stay {S:Addr->Prop} {H H':Hp} (e:But S H H'):Bm S H H':=fun b o h n _=>e b o h n
theorem Bm.put {S:Addr->Prop} {H:Hp} {d:Addr} {kv:List (Key×V)} {o:HO} (h:H d=some (.dK kv)):Bm S H (L2.upd H d o):=fun b u q _ m=>by
 have hne:b≠d:=fun e=>by
  subst e
  rw[h]at q
  cases q
  exact m _ rfl
 rw[A8 hne]
 exact q
theorem Bm.imp {S S':Addr->Prop} {H H':Hp} (e:Bm S H H') (h:∀b,S b->S' b):Bm S' H H':=fun b o q n m=>e b o q (fun z=>n (h b z)) m
theorem SI {H:Hp} {a:Addr} {o:HO} (h:H a=some o):upd H a o=H:=by
 funext b
 by_cases e:b=a
 ·subst e
  rw[A4,h]
 ·rw[A8 e]
def kN (n:Nat):Key:=Sum.inl (n:Int)
def StD (kv:List (Key×V)) (a:List Nat):Prop:=∃l:List Nat,kv.map (·.1)=l.map kN/\l.Perm a
theorem StD.len {kv:List (Key×V)} {a:List Nat} (h:StD kv a):kv.length=a.length:=by
 obtain ⟨l,h1,h2⟩:=h
 rw[<-h2.length_eq]
 have:=congrArg List.length h1
 simpa using this
theorem VA (kv:List (Key×V)) (k:Key):(Ae kv k).isSome=true↔k∈kv.map (·.1):=by
 rw[<-Dt]
 simp
theorem OC {m n:Nat} (h:kN m=kN n):m=n:=by
 have:=Sum.inl.inj h
 omega
theorem Xj {l:List Nat} {n:Nat}:kN n∈l.map kN↔n∈l:=by
 rw[List.mem_map]
 constructor
 ·rintro ⟨m,h,e⟩
  rw[<-OC e]
  exact h
 ·exact fun h=>⟨n,h,rfl⟩
theorem StD.mem {kv:List (Key×V)} {a:List Nat} (h:StD kv a) (n:Nat):kN n∈kv.map (·.1)↔n∈a:=by
 obtain ⟨l,h1,h2⟩:=h
 rw[h1,Xj,h2.mem_iff]
theorem StD.has {kv:List (Key×V)} {a:List Nat} (h:StD kv a) (z:Int):(Ae kv (Sum.inl z)).isSome=decide (0<=z/\z.toNat∈a):=by
 rw[Bool.eq_iff_iff,VA,decide_eq_true_eq]
 constructor
 ·intro q
  obtain ⟨l,h1,h2⟩:=h
  rw[h1]at q
  obtain ⟨n,hn,e⟩:=List.mem_map.1 q
  have e2:(n:Int)=z:=Sum.inl.inj e
  refine ⟨by omega,?_⟩
  rw[<-e2,Int.toNat_natCast]
  exact h2.mem_iff.1 hn
 ·rintro ⟨h0,h1⟩
  have:=(h.mem z.toNat).2 h1
  unfold kN at this
  rw[Int.toNat_of_nonneg h0]at this
  exact this
theorem StD.some {kv:List (Key×V)} {a:List Nat} (h:StD kv a) {n:Nat} (hn:n∈a):∃v,Ae kv (kN n)=Option.some v:=by
 have:=h.has (n:Int)
 rw[decide_eq_true (by simpa using hn)]at this
 exact Option.isSome_iff_exists.1 this
theorem StD.perm {kv:List (Key×V)} {a b:List Nat} (h:StD kv a) (p:a.Perm b):StD kv b:=by
 obtain ⟨l,h1,h2⟩:=h
 exact ⟨l,h1,h2.trans p⟩
theorem StD.put {kv:List (Key×V)} {a:List Nat} {n:Nat} {v:V} (h:StD kv a):StD (BB kv (kN n) v) (if n∈a then a else a++[n]):=by
 have hm:=h.mem n
 obtain ⟨l,h1,h2⟩:=h
 by_cases c:n∈a
 ·rw[if_pos c]
  refine ⟨l,?_,h2⟩
  rw[Fd (hm.2 c),h1]
 ·rw[if_neg c]
  refine ⟨l++[n],?_,h2.append_right _⟩
  rw[Eh fun q=>c (hm.1 q),h1,List.map_append]
  rfl
theorem StD.drop {kv:List (Key×V)} {a:List Nat} {n:Nat} (h:StD kv a):StD (C6 kv (kN n)) (a.filter fun m=>decide (m≠n)):=by
 obtain ⟨l,h1,h2⟩:=h
 refine ⟨l.filter fun m=>decide (m≠n),?_,h2.filter _⟩
 unfold C6
 have:(kv.filter fun x=>decide (x.1≠kN n)).map (·.1)=(kv.map (·.1)).filter fun k=>decide (k≠kN n):=by
  rw[List.filter_map]
  rfl
 rw[this,h1,List.filter_map]
 congr 1
 apply List.filter_congr
 intro m _
 simp only[Function.comp,ne_eq,decide_eq_decide]
 exact not_congr ⟨OC,fun e=>by rw[e]⟩
theorem StD.nil:StD [] []:=⟨[],rfl,.nil⟩
def FOk (F:Addr->Prop) (H:Hp):Prop:=∀b,F b->(∃ns:List Int,H b=some (.lst (ns.map V.int)))\/∃C dx fs,H b=some (.ins C dx fs)
theorem FOk.some {F:Addr->Prop} {H:Hp} (h:FOk F H) {b:Addr} (e:H b=none):¬F b:=fun f=>by
 rcases h b f with ⟨_,q⟩|⟨_,_,_,q⟩<;>rw[e]at q<;>cases q
theorem FOk.same {F:Addr->Prop} {H H':Hp} (h:FOk F H) (e:A1 H H'):FOk F H':=fun b f=>by
 rcases h b f with ⟨ns,q⟩|⟨C,dx,fs,q⟩
 ·exact .inl ⟨ns,e _ _ q⟩
 ·exact .inr ⟨C,dx,fs,e _ _ q⟩
theorem FOk.mut {F:Addr->Prop} {H:Hp} (h:FOk F H) {b:Addr} (f:F b):∃o,H b=Option.some o/\Mut o:=by
 rcases h b f with ⟨ns,q⟩|⟨C,dx,fs,q⟩
 ·exact ⟨_,q,.inl ⟨_,rfl⟩⟩
 ·exact ⟨_,q,.inr (.inr ⟨_,_,_,rfl⟩)⟩
theorem FOk.dict {F:Addr->Prop} {H:Hp} (h:FOk F H) {b:Addr} {kv:List (Key×V)} (e:H b=Option.some (.dK kv)):¬F b:=fun f=>by
 rcases h b f with ⟨_,q⟩|⟨_,_,_,q⟩<;>rw[e]at q<;>cases q
theorem FOk.stay {F:Addr->Prop} {S:Addr->Prop} {H H':Hp} (h:FOk F H) (e:Bm S H H') (n:∀b,F b->¬S b):FOk F H':=fun b f=>by
 rcases h b f with ⟨ns,q⟩|⟨C,dx,fs,q⟩
 ·exact .inl ⟨ns,e _ _ q (n b f) (fun _ z=>nomatch z)⟩
 ·exact .inr ⟨C,dx,fs,e _ _ q (n b f) (fun _ z=>nomatch z)⟩
def Oa (K:PySem.W.Frag) (H:Hp) (v:V):Option VapatBase.Tree->Prop
 |none=>v=.non
 |some t=>treeV K H v t
theorem Oa.same {K:PySem.W.Frag} {H H':Hp} {v:V} (e:A1 H H'):∀{o:Option VapatBase.Tree},Oa K H v o->Oa K H' v o
 |none,h=>h
 |some t,h=>treeV.same e h
def Hc (H:Hp) (tv:List (Key×V)) (tags:List (Option (List Nat))):Prop:=(tv.map (·.1)).Nodup/\(∀k∈tv.map (·.1),∃n:Nat,k=kN n/\n<4)/\
 ∀n:Nat,match (tags[n]?).bind fun x=>x with
  |none=>Ae tv (kN n)=none
  |some a=>∃u,Ae tv (kN n)=some u/\JD H u a
theorem Hc.same {H H':Hp} {tv:List (Key×V)} {tags:List (Option (List Nat))} (e:A1 H H') (h:Hc H tv tags):Hc H' tv tags:=by
 refine ⟨h.1,h.2.1,fun n=>?_⟩
 have:=h.2.2 n
 split at this
 next q=>exact this
 next a q=>
  obtain ⟨u,h1,h2⟩:=this
  exact ⟨u,h1,h2.same e⟩
structure KpN (fs:List (Str×V)):Prop where
 m1:fs.lookup ("begin":Str)=none
 m2:fs.lookup ("names_in":Str)=none
 m3:fs.lookup ("row_in":Str)=none
 m4:fs.lookup ("take_in":Str)=none
 m5:fs.lookup ("leave_out":Str)=none
 m6:fs.lookup ("keep":Str)=none
 len:fs.length<=10
structure KpF (fs:List (Str×V)) (vt:V) (ra sa ta:Addr):Prop where
 N:KpN fs
 ft:fs.lookup ("first_tree":Str)=some vt
 rc:fs.lookup ("recorded":Str)=some (.ref ra)
 ss:fs.lookup ("stores":Str)=some (.ref sa)
 tg:fs.lookup ("tags":Str)=some (.ref ta)
structure ClK (K:PySem.W.Frag) (C:Addr):Prop where
 cl:Cls K C
 ft:B7 K C "first_tree"
 rc:B7 K C "recorded"
 ss:B7 K C "stores"
 tg:B7 K C "tags"
def Sx (F:Addr->Prop) (r ra ta:Addr) (ds:List Addr) (b:Addr):Prop:=F b\/b=r\/b=ra\/b=ta\/b∈ds
structure KpS (K:PySem.W.Frag) (C:Addr) (F:Addr->Prop) (H:Hp) (r:Addr) (s:Vapate.State) (dx:Addr) (fs:List (Str×V)) (vt:V) (ra sa ta:Addr) (ds:List Addr):Prop where
 ins:H r=some (.ins C dx fs)
 fl:KpF fs vt ra sa ta
 rcs:∃kvs,H ra=some (.dK kvs)/\Gj K (CH (Sx F r ra ta ds) H) kvs s.known/\kvs.length=s.known.length
 tgs:∃tv,H ta=some (.dK tv)/\Hc (CH (Sx F r ra ta ds) H) tv s.tags
 sts:CH (Sx F r ra ta ds) H sa=some (.lst (ds.map V.ref))
 st:∀(i:Nat) (d:Addr),ds[i]?=some d->∃kv,H d=some (.dK kv)/\StD kv (s.stores.getD i [])
 tree:Oa K (CH (Sx F r ra ta ds) H) vt s.tree
 dl:ds.length=3
 nd:(ra::ta::ds).Nodup
 nf:¬F r
 fok:FOk F H
def Kp (K:PySem.W.Frag) (C:Addr) (F:Addr->Prop) (H:Hp) (r:Addr) (s:Vapate.State):Prop:=∃dx fs vt ra sa ta ds,KpS K C F H r s dx fs vt ra sa ta ds
section
variable {K:PySem.W.Frag} {C:Addr} {F:Addr->Prop} {H H':Hp} {r:Addr} {s:Vapate.State} {dx:Addr} {fs:List (Str×V)} {vt:V} {ra sa ta:Addr} {ds:List Addr}
theorem KpS.mut (h:KpS K C F H r s dx fs vt ra sa ta ds):∀b,Sx F r ra ta ds b->∃o,H b=some o/\Mut o:=by
 rintro b (f|rfl|rfl|rfl|m)
 ·exact h.fok.mut f
 ·exact ⟨_,h.ins,.inr (.inr ⟨_,_,_,rfl⟩)⟩
 ·obtain ⟨kv,e,-⟩:=h.rcs
  exact ⟨_,e,.inr (.inl ⟨_,rfl⟩)⟩
 ·obtain ⟨kv,e,-⟩:=h.tgs
  exact ⟨_,e,.inr (.inl ⟨_,rfl⟩)⟩
 ·obtain ⟨i,e⟩:=List.getElem?_of_mem m
  obtain ⟨kv,e,-⟩:=h.st i b e
  exact ⟨_,e,.inr (.inl ⟨_,rfl⟩)⟩
theorem KpS.new (h:KpS K C F H r s dx fs vt ra sa ta ds) {b:Addr} (e:H b=none):¬Sx F r ra ta ds b:=fun q=>by
 obtain ⟨o,e2,-⟩:=h.mut b q
 rw[e]at e2
 cases e2
theorem KpS.but (h:KpS K C F H r s dx fs vt ra sa ta ds) (e:But F H H') (f:FOk F H'):KpS K C F H' r s dx fs vt ra sa ta ds:=by
 have e2:A1 (CH (Sx F r ra ta ds) H) (CH (Sx F r ra ta ds) H'):=Ik (fun _ _ _ h=>h) fun b o q n=>e b o q fun z=>n (.inl z)
 obtain ⟨kvs,h1,h2,h2l⟩:=h.rcs
 obtain ⟨tv,h3,h4⟩:=h.tgs
 refine ⟨e _ _ h.ins h.nf,h.fl,⟨kvs,e _ _ h1 (h.fok.dict h1),h2.same e2,h2l⟩,⟨tv,e _ _ h3 (h.fok.dict h3),h4.same e2⟩,e2 _ _ h.sts,fun i d hd=>?_,h.tree.same e2,h.dl,h.nd,h.nf,f⟩
 obtain ⟨kv,q1,q2⟩:=h.st i d hd
 exact ⟨kv,e _ _ q1 (h.fok.dict q1),q2⟩
theorem Kp.but (h:Kp K C F H r s) (e:But F H H') (f:FOk F H'):Kp K C F H' r s:=by
 obtain ⟨dx,fs,vt,ra,sa,ta,ds,h⟩:=h
 exact ⟨dx,fs,vt,ra,sa,ta,ds,h.but e f⟩
theorem KpS.same (h:KpS K C F H r s dx fs vt ra sa ta ds) (e:A1 H H'):KpS K C F H' r s dx fs vt ra sa ta ds:=h.but (A1.but e) (h.fok.same e)
theorem Kp.same (h:Kp K C F H r s) (e:A1 H H'):Kp K C F H' r s:=by
 obtain ⟨dx,fs,vt,ra,sa,ta,ds,h⟩:=h
 exact ⟨dx,fs,vt,ra,sa,ta,ds,h.same e⟩
theorem Kp.fok (h:Kp K C F H r s):FOk F H:=by
 obtain ⟨dx,fs,vt,ra,sa,ta,ds,h⟩:=h
 exact h.fok
theorem Yc (h:(ra::ta::ds).Nodup) {i j:Nat} {d e:Addr} (hi:ds[i]?=some d) (hj:ds[j]?=some e) (hn:i≠j):d≠e:=by
 rintro rfl
 have nd:=(List.nodup_cons.1 (List.nodup_cons.1 h).2).2
 obtain ⟨a,b⟩:=List.getElem?_eq_some_iff.1 hi
 obtain ⟨a',b'⟩:=List.getElem?_eq_some_iff.1 hj
 rw[List.nodup_iff_pairwise_ne,List.pairwise_iff_getElem]at nd
 rcases Nat.lt_or_gt_of_ne hn with q|q
 ·exact nd i j a a' q (b.trans b'.symm)
 ·exact nd j i a' a q (b'.trans b.symm)
theorem KpS.setS (h:KpS K C F H r s dx fs vt ra sa ta ds) {k:Nat} {d:Addr} {kv:List (Key×V)} {a:List Nat} (hd:ds[k]?=some d) (hs:StD kv a) (hk:k<s.stores.length):
  KpS K C F (upd H d (.dK kv)) r {s with stores:=s.stores.set k a} dx fs vt ra sa ta ds:=by
 have hm:=List.mem_of_getElem? hd
 have e2:A1 (CH (Sx F r ra ta ds) H) (CH (Sx F r ra ta ds) (upd H d (.dK kv))):=Ik (fun _ _ _ h=>h) (But.upd (.inr (.inr (.inr (.inr hm)))))
 obtain ⟨kvs,h1,h2,h2l⟩:=h.rcs
 obtain ⟨tv,h3,h4⟩:=h.tgs
 obtain ⟨kv0,h5,-⟩:=h.st k d hd
 have n0:=List.nodup_cons.1 h.nd
 have n1:=List.nodup_cons.1 n0.2
 have hrd:r≠d:=Dv h.ins h5 (by intro q;cases q)
 have hra:ra≠d:=fun e=>n0.1 (List.mem_cons_of_mem _ (by rw[e];exact hm))
 have hta:ta≠d:=fun e=>n1.1 (by rw[e];exact hm)
 refine ⟨by rw[A8 hrd];exact h.ins,h.fl,⟨kvs,by rw[A8 hra];exact h1,h2.same e2,h2l⟩,⟨tv,by rw[A8 hta];exact h3,h4.same e2⟩,e2 _ _ h.sts,fun i d' hd'=>?_,h.tree.same e2,h.dl,h.nd,h.nf,h.fok.stay (Bm.put (S:=fun _=>False) h5) (fun _ _ q=>q)⟩
 by_cases e:i=k
 ·subst e
  rw[hd]at hd'
  cases hd'
  refine ⟨kv,A4,?_⟩
  simp only[List.getD_eq_getElem?_getD,List.getElem?_set_self hk,Option.getD_some]
  exact hs
 ·obtain ⟨kv',q1,q2⟩:=h.st i d' hd'
  refine ⟨kv',by rw[A8 (Yc h.nd hd' hd e)];exact q1,?_⟩
  simp only[List.getD_eq_getElem?_getD,List.getElem?_set_ne (Ne.symm e)]at q2 ⊢
  exact q2
theorem KpS.setT (h:KpS K C F H r s dx fs vt ra sa ta ds) {tv:List (Key×V)} {tags:List (Option (List Nat))} (ht:Hc (CH (Sx F r ra ta ds) H) tv tags):
  KpS K C F (upd H ta (.dK tv)) r {s with tags:=tags} dx fs vt ra sa ta ds:=by
 have e2:A1 (CH (Sx F r ra ta ds) H) (CH (Sx F r ra ta ds) (upd H ta (.dK tv))):=Ik (fun _ _ _ h=>h) (But.upd (.inr (.inr (.inr (.inl rfl)))))
 obtain ⟨kvs,h1,h2,h2l⟩:=h.rcs
 obtain ⟨tv0,h3,h4⟩:=h.tgs
 have n0:=List.nodup_cons.1 h.nd
 have n1:=List.nodup_cons.1 n0.2
 have hrd:r≠ta:=Dv h.ins h3 (by intro q;cases q)
 have hra:ra≠ta:=fun e=>n0.1 (by rw[e];exact List.mem_cons_self ..)
 refine ⟨by rw[A8 hrd];exact h.ins,h.fl,⟨kvs,by rw[A8 hra];exact h1,h2.same e2,h2l⟩,⟨tv,A4,ht.same e2⟩,e2 _ _ h.sts,fun i d' hd'=>?_,h.tree.same e2,h.dl,h.nd,h.nf,h.fok.stay (Bm.put (S:=fun _=>False) h3) (fun _ _ q=>q)⟩
 obtain ⟨kv',q1,q2⟩:=h.st i d' hd'
 exact ⟨kv',by rw[A8 fun e=>n1.1 (by rw[<-e];exact List.mem_of_getElem? hd')];exact q1,q2⟩
theorem KpS.setR (h:KpS K C F H r s dx fs vt ra sa ta ds) {kvs:List (Key×V)} {ks:List Known} (hr:Gj K (CH (Sx F r ra ta ds) H) kvs ks) (hl:kvs.length=ks.length):
  KpS K C F (upd H ra (.dK kvs)) r {s with known:=ks} dx fs vt ra sa ta ds:=by
 have e2:A1 (CH (Sx F r ra ta ds) H) (CH (Sx F r ra ta ds) (upd H ra (.dK kvs))):=Ik (fun _ _ _ h=>h) (But.upd (.inr (.inr (.inl rfl))))
 obtain ⟨kv0,h1,-⟩:=h.rcs
 obtain ⟨tv0,h3,h4⟩:=h.tgs
 have n0:=List.nodup_cons.1 h.nd
 have hrd:r≠ra:=Dv h.ins h1 (by intro q;cases q)
 have hta:ta≠ra:=fun e=>n0.1 (by rw[e];exact List.mem_cons_self ..)
 refine ⟨by rw[A8 hrd];exact h.ins,h.fl,⟨kvs,A4,hr.same e2,hl⟩,⟨tv0,by rw[A8 hta];exact h3,h4.same e2⟩,e2 _ _ h.sts,fun i d' hd'=>?_,h.tree.same e2,h.dl,h.nd,h.nf,h.fok.stay (Bm.put (S:=fun _=>False) h1) (fun _ _ q=>q)⟩
 obtain ⟨kv',q1,q2⟩:=h.st i d' hd'
 exact ⟨kv',by rw[A8 fun e=>n0.1 (by rw[<-e];exact List.mem_cons_of_mem _ (List.mem_of_getElem? hd'))];exact q1,q2⟩
end
end
section
open Vapate (Known find blockOf endsOf needsOf)
section
variable {P:Program} {w:World} {K:PySem.W.Frag} {mg:Str->Option Value} {base:Heap} {C:Addr}
theorem KpS.dget {F:Addr->Prop} {H:Hp} {r:Addr} {s:Vapate.State} {dx:Addr} {fs:List (Str×V)} {vt:V} {ra sa ta:Addr} {ds:List Addr} (h:KpS K C F H r s dx fs vt ra sa ta ds) {n:Nat} (hn:n<3):∃d kv,ds[n]?=some d/\H d=some (.dK kv)/\StD kv (s.stores.getD n [])/\atI (ds.map V.ref) ((n:Nat):Int)=some (.ref d):=by
 have hd:ds[n]?=some (ds[n]'(by rw[h.dl];exact hn)):=by simp[h.dl,hn]
 obtain ⟨kv,h1,h2⟩:=h.st n _ hd
 exact ⟨_,kv,hd,h1,h2,CA (by rw[List.getElem?_map,hd];rfl)⟩
theorem KpS.sq {F:Addr->Prop} {H:Hp} {r:Addr} {s:Vapate.State} {dx:Addr} {fs:List (Str×V)} {vt:V} {ra sa ta:Addr} {ds:List Addr} (h:KpS K C F H r s dx fs vt ra sa ta ds):SqL K H sa (ds.map V.ref):=SqL.of (Ch _ _ h.sts)
abbrev EY:Stmt:=D7 (top 79) 2
theorem LN:AC ["self","store"] ["self","store"] (A7 EY):=⟨rfl,rfl,rfl,by decide+kernel,rfl,by decide+kernel,by decide+kernel⟩
def Bp (K:PySem.W.Frag) (C:Addr):Sp:=fun vs H Q _=>∃(F:Addr->Prop) (r:Addr) (s:Vapate.State) (k:Nat),vs=[.ref r,iN k]/\Kp K C F H r s/\k<3/\Ps.Up (s.stores.getD k [])/\(s.stores.getD k []).length<=20/\
 ∀p,H p=none->Q (.ref p) (upd H p (.lst ((s.stores.getD k []).map iN)))
theorem SX (T:BJ K mg) (cK:ClK K C) (D:MethAt K C "names_in" "Keeper.names_in" EY ["self","store"]):OkM P w K mg base 1 C "names_in" ["self","store"] (Bp K C):=by
 refine D.ok LN (fun vs H Q E h=>?_) (fun f cdv A outer s H vs Q E hr h=>?_)
 ·obtain ⟨F,r,s,k,rfl,_⟩:=h
  rfl
 ·obtain ⟨F,r,s,n,rfl,⟨dx,fs,vt,ra,sa,ta,ds,h⟩,hn,hup,hlen,k⟩:=h
  have hu:=Ao hr
  refine ⟨_,(A5 (A6 (AN (Oe rfl) (by rfl) T.sorted PyProof.Rows.boot_sorted (A0 (AF (r:=B6 K) Ak (AY (pv 0) rfl) (pv 1) (fun _ _=>rfl)) A3)))),?_⟩
  trivial
  obtain ⟨d,kv,hd,h1,⟨l,e1,e2⟩,hat⟩:=h.dget hn
  refine ⟨C,dx,fs,h.ins,cK.cl,cK.ss,_,h.fl.ss,sa,rfl,_,_,rfl,h.sq,_,hat,d,rfl,kv,h1,l.map (fun n=>((n:Nat):Int)),by rw[e1,List.map_map];rfl,by rw[List.length_map,e2.length_eq];omega,fun ns' p pm pw hp=>?_⟩
  have en:ns'=(s.stores.getD n []).map fun n=>((n:Nat):Int):=by
   refine List.Perm.eq_of_pairwise (le:=fun a b=>a<=b) ?_ pw ?_ (pm.trans (e2.map _))
   ·intro a b _ _ h1 h2;omega
   ·exact List.Pairwise.map _ (fun a b h=>by omega) hup
  rw[en,List.map_map]
  exact k p hp
abbrev Ew:Stmt:=D7 (top 79) 4
theorem Ex:AC ["self","store","names","before","name"] ["self","store","names"] (A7 Ew):=⟨rfl,rfl,rfl,by decide+kernel,rfl,by decide+kernel,by decide+kernel⟩
def Ft (K:PySem.W.Frag) (C:Addr):Sp:=fun vs H Q _=>∃(F:Addr->Prop) (r:Addr) (s:Vapate.State) (k:Nat) (p:Addr) (ns b:List Nat),vs=[.ref r,iN k,.ref p]/\Kp K C F H r s/\k<3/\s.stores.length=3/\H p=some (.lst (ns.map iN))/\
 (s.stores.getD k []).Nodup/\(s.stores.getD k []).length<=100/\ns.length<=100/\b.Nodup/\(∀x,x∈b↔x∈s.stores.getD k []\/x∈ns)/\
 ∀d kv kv',H d=some (.dK kv)->Kp K C F (upd H d (.dK kv')) r {s with stores:=s.stores.set k b}->Q (.int ((b.length:Int) - ((s.stores.getD k []).length:Int))) (upd H d (.dK kv'))
theorem Tk (T:BJ K mg) (cK:ClK K C) (D:MethAt K C "take_in" "Keeper.take_in" Ew ["self","store","names"]):OkM P w K mg base 1 C "take_in" ["self","store","names"] (Ft K C):=by
 refine D.ok Ex (fun vs H Q E h=>?_) (fun f cdv A outer s H vs Q E hr h=>?_)
 ·obtain ⟨F,r,s,k,p,ns,b,rfl,_⟩:=h
  rfl
 ·obtain ⟨F,r,s,n,p,ns,b,rfl,⟨dx,fs,vt,ra,sa,ta,ds,h⟩,hn,hsl,hp,hnd,hal,hnl,hbn,hbm,k⟩:=h
  have hu:=Ao hr
  refine ⟨_,(A2 (AE (i:=3) Ex.nd rfl (by nofun) (AN HB (by rfl) T.len PySem.boot_len (A0 (AF (r:=B6 K) Ak (AY (pv 0) rfl) (pv 1) (fun _ _=>rfl)) A3)))
   (A2 (BH PassesOwn.never rfl (B4 (pv 2)) (AZ (i:=4) Ex.nd rfl (by nofun))
   (A5 (DZ hu (AF (r:=B6 K) Ak (AY (pv 0) rfl) (pv 1) (fun _ _=>rfl)) (pv 4) JA rfl)))
   (A5 (A6 (As Ia (AN HB (by rfl) T.len PySem.boot_len (A0 (AF (r:=B6 K) Ak (AY (pv 0) rfl) (pv 1) (fun _ _=>rfl)) A3)) (pv 3)))))),?_⟩
  trivial
  obtain ⟨d,kv,hd,h1,h2,hat⟩:=h.dget hn
  have hpd:p≠d:=Dv hp h1 (by intro q;cases q)
  refine ⟨C,dx,fs,h.ins,cK.cl,cK.ss,_,h.fl.ss,sa,rfl,_,_,rfl,h.sq,_,hat,d,rfl,kv,h1,⟨_,SqL.of hp⟩,?_⟩
  refine SC (K:=K) (a:=p) (xs:=ns.map iN) (fun i σ H'=>∃(o:Option V) (kv':List (Key×V)) (l:List Nat),σ=[some (.ref r),some (iN n),some (.ref p),some (.int (kv.length:Int)),o]/\H'=upd H d (.dK kv')/\StD kv' l/\l.Nodup/\l.length<=100+i/\∀x,x∈l↔x∈s.stores.getD n []\/x∈ns.take i)
   ⟨none,kv,_,rfl,(SI h1).symm,h2,hnd,by omega,by simp⟩ ?_ ?_ ?_
  ·rintro i σ H' ⟨o,kv',l,rfl,rfl,-⟩
   exact SqL.of (by rw[A8 hpd];exact hp)
  ·rintro i x σ H' hx ⟨o,kv',l,rfl,rfl,hst,hln,hll,hlm⟩
   rw[List.getElem?_map]at hx
   obtain ⟨m,hm,rfl⟩:=Option.map_eq_some_iff.1 hx
   have hi:i<ns.length:=(List.getElem?_eq_some_iff.1 hm).1
   have h':=h.setS hd hst (by omega)
   trivial
   refine ⟨C,dx,fs,h'.ins,cK.cl,cK.ss,_,h'.fl.ss,sa,rfl,_,_,rfl,h'.sq,_,hat,d,rfl,_,FW.k (k:=kN m) A4 (szl (by rw[hst.len];omega)),_,C7,_,hst.put,?_⟩
   refine ⟨?_,?_,fun x=>?_⟩
   ·split
    ·exact hln
    ·rw[List.nodup_append]
     exact ⟨hln,by simp,fun a ha b hb=>by simp at hb;subst hb;intro e;subst e;contradiction⟩
   ·split
    ·omega
    ·simp;omega
   ·rw[Ai hm]
    split
    next c=>
     rw[hlm x]
     simp only[List.mem_append,List.mem_singleton]
     constructor
     ·rintro (q|q)
      ·exact .inl q
      ·exact .inr (.inl q)
     ·rintro (q|q|q)
      ·exact .inl q
      ·exact .inr q
      ·subst q;exact (hlm _).1 c
    next c=>
     rw[List.mem_append,hlm x]
     simp only[List.mem_append,List.mem_singleton]
     rw[or_assoc]
  ·rintro σ H' ⟨o,kv',l,rfl,rfl,hst,hln,hll,hlm⟩
   rw[List.length_map,List.take_length]at hlm
   have hpm:l.Perm b:=(List.perm_ext_iff_of_nodup hln hbn).2 fun x=>by rw[hlm x,hbm x]
   have hst':=hst.perm hpm
   have h':=h.setS hd hst' (by omega)
   trivial
   refine ⟨C,dx,fs,h'.ins,cK.cl,cK.ss,_,h'.fl.ss,sa,rfl,_,_,rfl,h'.sq,_,hat,d,rfl,kv',A4,?_⟩
   rw[hst'.len,h2.len]
   exact k d kv kv' h1 ⟨dx,fs,vt,ra,sa,ta,ds,h'⟩
abbrev EG:Stmt:=D7 (top 79) 5
theorem GH:AC ["self","store","names","name"] ["self","store","names"] (A7 EG):=⟨rfl,rfl,rfl,by decide+kernel,rfl,by decide+kernel,by decide+kernel⟩
def IR (K:PySem.W.Frag) (C:Addr):Sp:=fun vs H Q _=>∃(F:Addr->Prop) (r:Addr) (s:Vapate.State) (k:Nat) (p:Addr) (ns b:List Nat),vs=[.ref r,iN k,.ref p]/\Kp K C F H r s/\k<3/\s.stores.length=3/\H p=some (.lst (ns.map iN))/\
 (s.stores.getD k []).Nodup/\ns.Nodup/\(∀x∈ns,x∈s.stores.getD k [])/\b.Nodup/\(∀x,x∈b↔x∈s.stores.getD k []/\x∉ns)/\
 ∀d kv kv',H d=some (.dK kv)->Kp K C F (upd H d (.dK kv')) r {s with stores:=s.stores.set k b}->Q .non (upd H d (.dK kv'))
theorem RG (T:BJ K mg) (cK:ClK K C) (D:MethAt K C "leave_out" "Keeper.leave_out" EG ["self","store","names"]):OkM P w K mg base 1 C "leave_out" ["self","store","names"] (IR K C):=by
 refine D.ok GH (fun vs H Q E h=>?_) (fun f cdv A outer s H vs Q E hr h=>?_)
 ·obtain ⟨F,r,s,k,p,ns,b,rfl,_⟩:=h
  rfl
 ·obtain ⟨F,r,s,n,p,ns,b,rfl,⟨dx,fs,vt,ra,sa,ta,ds,h⟩,hn,hsl,hp,hnd,hnn,hns,hbn,hbm,k⟩:=h
  have hu:=Ao hr
  refine ⟨_,(A5 (BH PassesOwn.never rfl (B4 (pv 2)) (AZ (i:=3) GH.nd rfl (by nofun))
   (A5 (BE (NG (AF (r:=B6 K) Ak (AY (pv 0) rfl) (pv 1) (fun _ _=>rfl)) (pv 3) ⟨rfl,rfl,rfl,rfl⟩))))),?_⟩
  trivial
  obtain ⟨d,kv,hd,h1,h2,hat⟩:=h.dget hn
  have hpd:p≠d:=Dv hp h1 (by intro q;cases q)
  refine ⟨⟨_,SqL.of hp⟩,?_⟩
  refine SC (K:=K) (a:=p) (xs:=ns.map iN) (fun i σ H'=>∃(o:Option V) (kv':List (Key×V)) (l:List Nat),σ=[some (.ref r),some (iN n),some (.ref p),o]/\H'=upd H d (.dK kv')/\StD kv' l/\l.Nodup/\∀x,x∈l↔x∈s.stores.getD n []/\x∉ns.take i)
   ⟨none,kv,_,rfl,(SI h1).symm,h2,hnd,by simp⟩ ?_ ?_ ?_
  ·rintro i σ H' ⟨o,kv',l,rfl,rfl,-⟩
   exact SqL.of (by rw[A8 hpd];exact hp)
  ·rintro i x σ H' hx ⟨o,kv',l,rfl,rfl,hst,hln,hlm⟩
   rw[List.getElem?_map]at hx
   obtain ⟨m,hm,rfl⟩:=Option.map_eq_some_iff.1 hx
   have h':=h.setS hd hst (by omega)
   have hnt:m∉ns.take i:=by
    intro q
    rw[List.mem_take_iff_getElem]at q
    obtain ⟨j,hj,e⟩:=q
    obtain ⟨hi,e2⟩:=List.getElem?_eq_some_iff.1 hm
    rw[List.nodup_iff_pairwise_ne,List.pairwise_iff_getElem]at hnn
    exact hnn j i (by omega) hi (by omega) (e.trans e2.symm)
   obtain ⟨v,hv⟩:=hst.some ((hlm m).2 ⟨hns m (List.mem_of_getElem? hm),hnt⟩)
   trivial
   refine ⟨C,dx,fs,h'.ins,cK.cl,cK.ss,_,h'.fl.ss,sa,rfl,_,_,rfl,h'.sq,_,hat,d,rfl,?_⟩
   refine ⟨.inl ⟨_,.inl A4⟩,_,A4,kN m,rfl,⟨v,hv⟩,_,C7,_,hst.drop,List.Nodup.sublist List.filter_sublist hln,fun x=>?_⟩
   rw[Ai hm,List.mem_filter,hlm x]
   simp only[List.mem_append,List.mem_singleton,decide_eq_true_eq,not_or]
   exact and_assoc
  ·rintro σ H' ⟨o,kv',l,rfl,rfl,hst,hln,hlm⟩
   rw[List.length_map,List.take_length]at hlm
   have hpm:l.Perm b:=(List.perm_ext_iff_of_nodup hln hbn).2 fun x=>by rw[hlm x,hbm x]
   have h':=h.setS hd (hst.perm hpm) (by omega)
   exact k d kv kv' h1 ⟨dx,fs,vt,ra,sa,ta,ds,h'⟩
end
end
section
open Vapate (Known find blockOf endsOf needsOf)
structure ClB (K:PySem.W.Frag) (C:Addr):Prop where
 cl:Cls K C
 bl:B7 K C "block"
 en:B7 K C "ends"
def NK (vb ve:V):List (Str×V):=AW "ends" ve (AW "block" vb [])
theorem Gj.put {K:PySem.W.Frag} {H:Hp} {kvs:List (Key×V)} {ks:List Known} {k:Known} {u:V} (h:Gj K H kvs ks) (hl:kvs.length=ks.length) (hn:find ks k.name=Option.none) (hu:Lf K H u k):Gj K H (BB kvs (kN k.name) u) (ks++[k])/\(BB kvs (kN k.name) u).length=(ks++[k]).length:=by
 have h0:Ae kvs (kN k.name)=Option.none:=by
  have:=h.2.2 k.name
  rw[hn]at this
  exact this
 have hk:=Eh (v:=u) (Rv h0)
 have hlen:(BB kvs (kN k.name) u).length=(ks++[k]).length:=by
  have:=congrArg List.length hk
  simp at this
  simp
  omega
 refine ⟨⟨Nat.le_of_eq hlen,fun x hx=>?_,fun n=>?_⟩,hlen⟩
 ·rw[hk]at hx
  rcases List.mem_append.1 hx with q|q
  ·exact h.2.1 x q
  ·exact ⟨k.name,List.mem_singleton.1 q⟩
 ·have e:find (ks++[k]) n=(find ks n).or (if k.name=n then Option.some k else Option.none):=by
   unfold find
   rw[List.find?_append]
   congr 1
   by_cases c:k.name=n<;>simp[c]
  have hv:Ae (BB kvs (kN k.name) u) (Sum.inl (n:Int))=if n=k.name then Option.some u else Ae kvs (Sum.inl (n:Int)):=by
   rw[FZ]
   by_cases c:n=k.name
   ·rw[if_pos c,if_pos (by rw[c];rfl)]
   ·rw[if_neg c,if_neg (show ¬(Sum.inl (n:Int):Key)=kN k.name from fun q=>c (OC q))]
  rw[e,hv]
  by_cases c:n=k.name
  ·subst c
   rw[hn,if_pos rfl,if_pos rfl]
   exact ⟨u,rfl,hu⟩
  ·rw[if_neg c,if_neg (Ne.symm c),Option.or_none]
   exact h.2.2 n
theorem KpS.stp {K:PySem.W.Frag} {C:Addr} {F:Addr->Prop} {H:Hp} {r:Addr} {s:Vapate.State} {dx:Addr} {fs:List (Str×V)} {vt:V} {ra sa ta:Addr} {ds:List Addr} (h:KpS K C F H r s dx fs vt ra sa ta ds) {t:VapatBase.Tree} (hT:Ps.Bn t s) {a:List Nat} (na:Ps.NOk s.known a) {p:Addr} (hp:H p=some (.lst (a.map iN))):StP K H (.ref ra) p s.known a t:=by
 obtain ⟨kvs,q1,q2,q3⟩:=h.rcs
 refine ⟨⟨ra,kvs,rfl,q1,q2.same Ch⟩,hp,hT.I,hT.srt,na.up,na.kn,fun n=>?_⟩
 unfold endsOf
 cases e:find s.known n with
 |none=>simp
 |some k=>
  have:=(hT.ends k (List.mem_of_find?_eq_some e)).1
  simp only[Option.map_some,Option.getD_some]
  omega
section
variable {P:Program} {w:World} {K:PySem.W.Frag} {mg:Str->Option Value} {base:Heap} {C B:Addr}
abbrev Dr:Stmt:=D7 (top 58) 0
theorem KA:AC ["self","block","ends"] ["self","block","ends"] (A7 Dr):=⟨rfl,rfl,rfl,by decide+kernel,rfl,by decide+kernel,by decide+kernel⟩
def IS (B:Addr):Sp:=fun vs H Q _=>∃(x dx:Addr) (vb ve:V),vs=[.ref x,vb,ve]/\H x=some (.ins B dx [])/\Q .non (upd H x (.ins B dx (NK vb ve)))
theorem Mw (cB:ClB K B) (D:Ed K mg B "Recorded" "Recorded.__init__" Dr ["self","block","ends"]):OkI P w K mg base 1 B "Recorded" ["self","block","ends"] (IS B):=by
 refine D.ok KA (fun vs H Q E h=>?_) (fun f cdv A outer s H vs Q E hr h=>?_)
 ·obtain ⟨x,dx,vb,ve,rfl,_⟩:=h
  rfl
 ·obtain ⟨x,dx,vb,ve,rfl,hH,k⟩:=h
  refine ⟨_,(A2 (FC (pv 0) (pv 1) rfl)
   (A5 (FC (pv 0) (pv 2) rfl))),?_⟩
  trivial
  refine ⟨B,dx,[],hH,cB.cl,cB.bl,by decide,B,dx,_,A4,cB.cl,cB.en,Nat.lt_of_le_of_lt Eo (by decide),?_⟩
  rw[C7]
  exact k
abbrev GO:Stmt:=D7 (top 79) 6
theorem Oo:AC ["self","store","name","block","ends"] ["self","store","name","block","ends"] (A7 GO):=⟨rfl,rfl,rfl,by decide+kernel,rfl,by decide+kernel,by decide+kernel⟩
def T6 (K:PySem.W.Frag) (C:Addr):Sp:=fun vs H Q _=>∃(F:Addr->Prop) (r:Addr) (s:Vapate.State) (k m:Nat) (vb:V) (ea:Addr) (blk:Vapatc.Row) (es b:List Nat),vs=[.ref r,iN k,iN m,vb,.ref ea]/\Kp K C F H r s/\k<3/\s.stores.length=3/\
 BA K H vb blk/\blk≠[]/\H ea=some (.lst (es.map iN))/\¬F ea/\find s.known m=none/\s.known.length<=100/\
 (s.stores.getD k []).Nodup/\(s.stores.getD k []).length<=100/\b.Nodup/\(∀x,x∈b↔x∈s.stores.getD k []\/x∈[m])/\
 ∀H',Kp K C F H' r {s with known:=s.known++[⟨m,blk,es⟩],stores:=s.stores.set k b}->Bm (fun _=>False) H H'->Q .non H'
theorem Wr (T:BJ K mg) (cK:ClK K C) (cB:ClB K B) (D:MethAt K C "keep" "Keeper.keep" GO ["self","store","name","block","ends"]) (KB:OkI P w K mg base 1 B "Recorded" ["self","block","ends"] (IS B)) (Ar:OkM P w K mg base 1 C "take_in" ["self","store","names"] (Ft K C)):
  OkM P w K mg base 3 C "keep" ["self","store","name","block","ends"] (T6 K C):=by
 have AM:=cK.cl
 refine D.ok Oo (fun vs H Q E h=>?_) (fun f cdv A outer s H vs Q E hr h=>?_)
 ·obtain ⟨F,r,s,k,m,vb,ea,blk,es,b,rfl,_⟩:=h
  rfl
 ·obtain ⟨F,r,s,n,m,vb,ea,blk,es,b,rfl,⟨dx,fs,vt,ra,sa,ta,ds,h⟩,hn,hsl,⟨ba,xs,rfl,hb1,hb2⟩,hbne,hea,hfe,hfind,hks,hnd,hal,hbn,hbm,k⟩:=h
  have hu:=Ao hr
  refine ⟨_,(A2 (DZ hu (AY (pv 0) rfl) (pv 2) (Wn KB (hr.mono (by decide)) (A0 (pv 3) (A0 (pv 4) A3))) rfl)
   (A5 (BE (Bl Ar AM (hr.mono (by decide)) (pv 0) (A0 (pv 1) (A0 (Af (A0 (pv 2) A3)) A3)))))),?_⟩
  trivial
  intro x dx' hx hdx hne
  refine ⟨x,dx',.ref ba,.ref ea,rfl,A4,rfl,?_⟩
  rw[C7]
  have e1:A1 H (upd (upd H dx' (.own x)) x (.ins B dx' (NK (.ref ba) (.ref ea)))):=(A1.new hdx).trans (A1.new (by rw[A8 (Ne.symm hne)];exact hx))
  have h1:=h.same e1
  have hx2:(upd (upd H dx' (.own x)) x (.ins B dx' (NK (.ref ba) (.ref ea)))) x=some (.ins B dx' (NK (.ref ba) (.ref ea))):=A4
  generalize (upd (upd H dx' (.own x)) x (.ins B dx' (NK (.ref ba) (.ref ea))))=H2 at*
  obtain ⟨kvs,q1,q2,q3⟩:=h1.rcs
  have nx:=h.new hx
  have nlst:∀{a:Addr} {ys:List V},H a=some (.lst ys)->¬F a->¬Sx F r ra ta ds a:=by
   rintro a ys ha nf (q|q|q|q|q)
   ·exact nf q
   ·subst q;rw[h.ins]at ha;cases ha
   ·subst q;obtain ⟨_,z,-⟩:=h.rcs;rw[z]at ha;cases ha
   ·subst q;obtain ⟨_,z,-⟩:=h.tgs;rw[z]at ha;cases ha
   ·obtain ⟨i,e⟩:=List.getElem?_of_mem q
    obtain ⟨_,z,-⟩:=h.st i a e
    rw[z]at ha
    cases ha
  have nba:¬Sx F r ra ta ds ba:=by
   refine nlst hb1 fun q=>?_
   rcases h.fok ba q with ⟨ns,z⟩|⟨_,_,_,z⟩
   ·rw[hb1]at z
    have z2:xs=ns.map V.int:=by cases z;rfl
    cases hb2 with
    |nil=>exact hbne rfl
    |cons r1 r2=>
     obtain ⟨a1,u1,e1,-⟩:=r1
     subst e1
     cases ns with
     |nil=>cases z2
     |cons n ns=>simp at z2
   ·rw[hb1]at z;cases z
  have nea:=nlst hea hfe
  have hrec:Lf K (CH (Sx F r ra ta ds) H2) (.ref x) ⟨m,blk,es⟩:=
   ⟨x,B,dx',_,.ref ba,.ref ea,rfl,by rw[Ep nx];exact hx2,cB.cl,cB.bl,cB.en,by unfold NK;ac_rfl,by unfold NK;ac_rfl,
    ⟨ba,xs,rfl,by rw[Ep nba];exact e1 _ _ hb1,pats.t ((AQ.of e1).trans (Vp h1.mut)) hb2⟩,⟨ea,rfl,by rw[Ep nea];exact e1 _ _ hea⟩⟩
  obtain ⟨w1,w2⟩:=q2.put (k:=⟨m,blk,es⟩) q3 hfind hrec
  have h2:=h1.setR w1 w2
  refine ⟨_,_,_,h1.ins,cK.cl,cK.rc,_,h1.fl.rc,ra,rfl,_,FW.k (k:=kN m) q1 (szl (by rw[q3];omega)),dx,fs,h2.ins,h2.fl.N.m4,AX (by omega),fun p hp=>?_⟩
  have h3:=h2.same (A1.new (o:=.lst [iN m]) hp)
  refine ⟨F,r,_,n,p,[m],b,rfl,⟨_,_,_,_,_,_,_,h3⟩,hn,hsl,A4,hnd,hal,by simp,hbn,hbm,fun d kv kv' hd hK=>k _ hK ?_⟩
  exact (((A1.stay e1).trans (Bm.put q1)).trans (A1.stay (A1.new hp))).trans (Bm.put hd)
abbrev FO:Stmt:=D7 (top 79) 3
theorem Mx:AC ["self","store"] ["self","store"] (A7 FO):=⟨rfl,rfl,rfl,by decide+kernel,rfl,by decide+kernel,by decide+kernel⟩
def Gx (K:PySem.W.Frag) (C:Addr):Sp:=fun vs H Q _=>∃(F:Addr->Prop) (r:Addr) (s:Vapate.State) (t:VapatBase.Tree) (k:Nat),vs=[.ref r,iN k]/\Kp K C F H r s/\Ps.Bn t s/\k<3/\
 ∀H' y,A1 H H'->BA K H' y (Vapate.rowOf s.known (s.stores.getD k []))->Q y H'
theorem V1 (T:BJ K mg) (cK:ClK K C) (D:MethAt K C "row_in" "Keeper.row_in" FO ["self","store"]) (AK:OkM P w K mg base 1 C "names_in" ["self","store"] (Bp K C)) (E6:OkF P w K mg base 11 "store_row" ["recorded","names"] (IQ K)):OkM P w K mg base 12 C "row_in" ["self","store"] (Gx K C):=by
 have AM:=cK.cl
 refine D.ok Mx (fun vs H Q E h=>?_) (fun f cdv A outer s H vs Q E hr h=>?_)
 ·obtain ⟨F,r,s,t,k,rfl,_⟩:=h
  rfl
 ·obtain ⟨F,r,s,t,n,rfl,⟨dx,fs,vt,ra,sa,ta,ds,h⟩,hT,hn,k⟩:=h
  have hu:=Ao hr
  refine ⟨_,(A5 (A6 (AD E6 (hr.mono (by decide)) (A0 (AY (pv 0) rfl) (A0 (Bl AK AM (hr.mono (by decide)) (pv 0) (A0 (pv 1) A3)) A3))))),?_⟩
  trivial
  have na:=hT.nok hn
  have hl:=na.len hT.I
  refine ⟨C,dx,fs,h.ins,cK.cl,cK.rc,_,h.fl.rc,dx,fs,h.ins,h.fl.N.m2,F,r,s,n,rfl,⟨_,_,_,_,_,_,_,h⟩,hn,na.up,by omega,fun p hp=>?_⟩
  exact ⟨.ref ra,p,s.known,_,t,rfl,(h.same (A1.new hp)).stp hT na A4,fun H' y e hy=>k _ _ ((A1.new hp).trans e) hy⟩
abbrev EL:Stmt:=D7 (top 79) 1
theorem Fu:AC ["self","first_tree","store"] ["self","first_tree"] (A7 EL):=⟨rfl,rfl,rfl,by decide+kernel,rfl,by decide+kernel,by decide+kernel⟩
abbrev EZ:Stmt:=D7 (top 79) 0
theorem LO:AC ["self"] ["self"] (A7 EZ):=⟨rfl,rfl,rfl,by decide+kernel,rfl,by decide+kernel,by decide+kernel⟩
def stB:Option VapatBase.Tree->Vapate.State
 |none=>Vapate.start
 |some t=>⟨some t,[],List.replicate Vapate.STORES [],List.replicate Vapate.TAGS none⟩
def My (K:PySem.W.Frag) (C:Addr):Sp:=fun vs H Q _=>∃(F:Addr->Prop) (r dx:Addr) (v:V) (fs:List (Str×V)) (o:Option VapatBase.Tree),vs=[.ref r,v]/\H r=some (.ins C dx fs)/\(fs=[]\/∃vt ra sa ta,KpF fs vt ra sa ta)/\Oa K H v o/\FOk F H/\¬F r/\
 ∀H',Kp K C F H' r (stB o)->But (·=r) H H'->Q .non H'
theorem Vu (T:BJ K mg) (cK:ClK K C) (D:MethAt K C "begin" "Keeper.begin" EL ["self","first_tree"]):OkM P w K mg base 1 C "begin" ["self","first_tree"] (My K C):=by
 refine D.ok Fu (fun vs H Q E h=>?_) (fun f cdv A outer s H vs Q E hr h=>?_)
 ·obtain ⟨F,r,dx,v,fs,o,rfl,_⟩:=h
  rfl
 ·obtain ⟨F,r,dx,v,fs,o,rfl,hH,hfs,hv,hF,hFr,k⟩:=h
  have hu:=Ao hr
  refine ⟨_,(A2 (FC (pv 0) (pv 1) rfl)
   (A2 (FC (pv 0) Ge rfl)
   (A2 (FC (pv 0) (Gn (own:=[("store",2)]) rfl Fu.nd (JE rfl T.range (A0 (AI T.STORES) A3)) (Ca (N:=["self","first_tree","store"]) (sc:=A7 EL) (by decide+kernel)) (fun _ _ _ _ _=>(AZ (i:=2) Fu.nd rfl (by nofun))) (fun _ _ _ _ _=>Fc) (fun _ _ _ _ _=>Ge)) rfl)
   (A5 (FC (pv 0) Ge rfl))))),?_⟩
  trivial
  have hlen:fs.length<=10:=by
   rcases hfs with rfl|⟨_,_,_,_,q⟩
   ·simp
   ·exact q.N.len
  refine ⟨C,dx,fs,hH,cK.cl,cK.ft,by omega,?_⟩
  intro rd hrd
  have hrdr:rd≠r:=fun e=>by rw[e,A4]at hrd;cases hrd
  have l1:=Eo (f:=("first_tree":Str)) (y:=v) (fs:=fs)
  refine ⟨C,dx,_,by rw[A8 (Ne.symm hrdr),A4],cK.cl,cK.rc,by omega,by decide,by decide,?_⟩
  have hrd2:H rd=none:=by rw[A8 hrdr]at hrd;exact hrd
  have e03:But (·=r) H (upd (upd (upd H r (.ins C dx (AW "first_tree" v fs))) rd (.dK [])) r (.ins C dx (AW "recorded" (.ref rd) (AW "first_tree" v fs)))):=((But.upd (S:=(·=r)) rfl).trans (A1.but (A1.new hrd))).trans (But.upd (S:=(·=r)) rfl)
  have h3r:(upd (upd (upd H r (.ins C dx (AW "first_tree" v fs))) rd (.dK [])) r (.ins C dx (AW "recorded" (.ref rd) (AW "first_tree" v fs)))) r=some (.ins C dx (AW "recorded" (.ref rd) (AW "first_tree" v fs))):=A4
  have h3d:(upd (upd (upd H r (.ins C dx (AW "first_tree" v fs))) rd (.dK [])) r (.ins C dx (AW "recorded" (.ref rd) (AW "first_tree" v fs)))) rd=some (.dK []):=by rw[A8 hrdr,A4]
  have l2:=Eo (f:=("recorded":Str)) (y:=.ref rd) (fs:=AW "first_tree" v fs)
  generalize (upd (upd (upd H r (.ins C dx (AW "first_tree" v fs))) rd (.dK [])) r (.ins C dx (AW "recorded" (.ref rd) (AW "first_tree" v fs))))=H3 at*
  intro D hD
  refine ⟨fun i m H'=>m=3 - i/\i<=3/\A1 H3 H'/\∃ds:List Addr,ds.length=i/\H' D=some (.lst (ds.map V.ref))/\ds.Nodup/\∀d∈ds,H3 d=none/\H' d=some (.dK []),
   ⟨3,rfl,by decide,A1.new hD,[],rfl,A4,by simp,by simp⟩,?_⟩
  rintro i m H' ⟨rfl,hi,e,ds,hdl,hDl,hdn,hda⟩
  by_cases hlt:i<3
  ·refine .inr ⟨hlt,fun H2=>i+1<=3/\A1 H3 H2/\∃ds:List Addr,ds.length=i+1/\H2 D=some (.lst (ds.map V.ref))/\ds.Nodup/\∀d∈ds,H3 d=none/\H2 d=some (.dK []),fun H2 p2=>⟨3 - (i+1),by omega,rfl,p2⟩,?_⟩
   rintro x H2 ⟨rfl,rfl⟩
   refine ⟨rfl,?_⟩
   simp only[SG,if_true]
   intro d hd
   have hdD:d≠D:=fun q=>by subst q;rw[hDl]at hd;cases hd
   have hd3:H3 d=none:=by
    cases q:H3 d with
    |none=>rfl
    |some o=>rw[e _ _ q]at hd;cases hd
   have hnd:d∉ds:=fun q=>by rw[(hda d q).2]at hd;cases hd
   refine ⟨ds.map V.ref,by rw[A8 (Ne.symm hdD)];exact hDl,szl (by rw[List.length_map];omega),hlt,A1.put (e.trans (A1.new hd)) hD,ds++[d],by simp[hdl],by rw[A4];simp,?_,fun z hz=>?_⟩
   ·rw[List.nodup_append]
    exact ⟨hdn,by simp,fun a ha b hb=>by simp at hb;subst hb;intro q;subst q;exact hnd ha⟩
   ·rcases List.mem_append.1 hz with q|q
    ·have hzD:z≠D:=fun q2=>by have:=(hda z q).2;rw[q2,hDl]at this;cases this
     have hzd:z≠d:=fun q2=>hnd (by rw[<-q2];exact q)
     exact ⟨(hda z q).1,by rw[A8 hzD,A8 hzd];exact (hda z q).2⟩
    ·have:z=d:=by simpa using q
     subst this
     exact ⟨hd3,by rw[A8 hdD,A4]⟩
  ·have ei:i=3:=by omega
   subst ei
   refine .inl ⟨Nat.le_refl _,?_⟩
   have h4r:=e _ _ h3r
   refine ⟨C,dx,_,h4r,cK.cl,cK.ss,by omega,?_⟩
   intro td htd
   have htr:td≠r:=fun q=>by rw[q,A4]at htd;cases htd
   have ht4:H' td=none:=by rw[A8 htr]at htd;exact htd
   have l3:=Eo (f:=("stores":Str)) (y:=.ref D) (fs:=AW "recorded" (.ref rd) (AW "first_tree" v fs))
   refine ⟨C,dx,_,by rw[A8 (Ne.symm htr),A4],cK.cl,cK.tg,by omega,?_⟩
   have e47:But (·=r) H' (upd (upd (upd H' r (.ins C dx (AW "stores" (.ref D) (AW "recorded" (.ref rd) (AW "first_tree" v fs))))) td (.dK [])) r (.ins C dx (AW "tags" (.ref td) (AW "stores" (.ref D) (AW "recorded" (.ref rd) (AW "first_tree" v fs)))))):=((But.upd (S:=(·=r)) rfl).trans (A1.but (A1.new htd))).trans (But.upd (S:=(·=r)) rfl)
   have h7r:(upd (upd (upd H' r (.ins C dx (AW "stores" (.ref D) (AW "recorded" (.ref rd) (AW "first_tree" v fs))))) td (.dK [])) r (.ins C dx (AW "tags" (.ref td) (AW "stores" (.ref D) (AW "recorded" (.ref rd) (AW "first_tree" v fs)))))) r=some (.ins C dx (AW "tags" (.ref td) (AW "stores" (.ref D) (AW "recorded" (.ref rd) (AW "first_tree" v fs))))):=A4
   have h7t:(upd (upd (upd H' r (.ins C dx (AW "stores" (.ref D) (AW "recorded" (.ref rd) (AW "first_tree" v fs))))) td (.dK [])) r (.ins C dx (AW "tags" (.ref td) (AW "stores" (.ref D) (AW "recorded" (.ref rd) (AW "first_tree" v fs)))))) td=some (.dK []):=by rw[A8 htr,A4]
   generalize (upd (upd (upd H' r (.ins C dx (AW "stores" (.ref D) (AW "recorded" (.ref rd) (AW "first_tree" v fs))))) td (.dK [])) r (.ins C dx (AW "tags" (.ref td) (AW "stores" (.ref D) (AW "recorded" (.ref rd) (AW "first_tree" v fs))))))=H7 at*
   have e07:But (·=r) H H7:=(e03.trans (A1.but e)).trans e47
   have h3n:∀{b},H3 b=none->b≠r:=fun q q2=>by rw[q2,h3r]at q;cases q
   have h30:∀{b},H3 b=none->H b=none:=fun {b} q=>by
    cases q3:H b with
    |none=>rfl
    |some o=>rw[e03 b o q3 (h3n q)]at q;cases q
   have h7d:∀d∈ds,H7 d=some (.dK []):=fun d hd=>e47 _ _ (hda d hd).2 (h3n (hda d hd).1)
   have h7rd:H7 rd=some (.dK []):=e47 _ _ (e _ _ h3d) hrdr
   have h7D:H7 D=some (.lst (ds.map V.ref)):=e47 _ _ hDl (h3n hD)
   have ht0:H td=none:=by
    cases q3:H td with
    |none=>rfl
    |some o=>rw[e _ _ (e03 _ _ q3 htr)]at ht4;cases ht4
   have hF7:FOk F H7:=hF.stay (But.stay e07) fun b f q=>hFr (q▸f)
   have old:∀{b o},H b=some o->b≠r->¬F b->¬Sx F r rd td ds b:=by
    rintro b o hb hbr hbf (q|q|q|q|q)
    ·exact hbf q
    ·exact hbr q
    ·rw[q,hrd2]at hb;cases hb
    ·rw[q,ht0]at hb;cases hb
    ·rw[h30 (hda b q).1]at hb;cases hb
   have hmut:∀b,Sx F r rd td ds b->∃o,H7 b=some o/\Mut o:=by
    rintro b (q|q|q|q|q)
    ·exact hF7.mut q
    ·exact ⟨_,by rw[q];exact h7r,.inr (.inr ⟨_,_,_,rfl⟩)⟩
    ·exact ⟨_,by rw[q];exact h7rd,.inr (.inl ⟨_,rfl⟩)⟩
    ·exact ⟨_,by rw[q];exact h7t,.inr (.inl ⟨_,rfl⟩)⟩
    ·exact ⟨_,h7d b q,.inr (.inl ⟨_,rfl⟩)⟩
   have hT7:AQ K H H7:=by
    intro b xs q
    rcases q with (q|⟨p,q⟩)|q
    ·exact .inl (.inl (e07 _ _ q fun z=>by subst z;rw[hH]at q;cases q))
    ·exact .inl (.inr ⟨p,e07 _ _ q fun z=>by subst z;rw[hH]at q;cases q⟩)
    ·exact .inr q
   have hDS:¬Sx F r rd td ds D:=by
    rintro (q|q|q|q|q)
    ·exact hF.some (h30 hD) q
    ·exact h3n hD q
    ·rw[q,h3d]at hD;cases hD
    ·rw[q,ht4]at hDl;cases hDl
    ·have:=h7d D q;rw[h7D]at this;cases this
   refine k H7 ⟨dx,_,v,rd,D,td,ds,h7r,⟨⟨?_,?_,?_,?_,?_,?_,?_⟩,by ac_rfl,by ac_rfl,by ac_rfl,by ac_rfl⟩,⟨[],h7rd,⟨by simp,by simp,?_⟩,?_⟩,⟨[],h7t,by simp,by simp,?_⟩,by rw[Ep hDS];exact h7D,fun i d hd=>⟨[],h7d d (List.mem_of_getElem? hd),?_⟩,?_,hdl,?_,hFr,hF7⟩ e07
   ·rcases hfs with rfl|⟨_,_,_,_,q⟩<;>ac_rfl;exact q.N.m1
   ·rcases hfs with rfl|⟨_,_,_,_,q⟩<;>ac_rfl;exact q.N.m2
   ·rcases hfs with rfl|⟨_,_,_,_,q⟩<;>ac_rfl;exact q.N.m3
   ·rcases hfs with rfl|⟨_,_,_,_,q⟩<;>ac_rfl;exact q.N.m4
   ·rcases hfs with rfl|⟨_,_,_,_,q⟩<;>ac_rfl;exact q.N.m5
   ·rcases hfs with rfl|⟨_,_,_,_,q⟩<;>ac_rfl;exact q.N.m6
   ·rcases hfs with rfl|⟨vt0,ra0,sa0,ta0,q⟩
    ·have l4:=Eo (f:=("tags":Str)) (y:=.ref td) (fs:=AW "stores" (.ref D) (AW "recorded" (.ref rd) (AW "first_tree" v [])))
     simp only[List.length_nil]at l1
     omega
    ·rw[Gf (v:=.ref ta0) (by ac_rfl;exact q.tg),Gf (v:=.ref sa0) (by ac_rfl;exact q.ss),Gf (v:=.ref ra0) (by ac_rfl;exact q.rc),Gf q.ft]
     exact q.N.len
   ·intro n
    cases o<;>rfl
   ·cases o<;>rfl
   ·intro n
    have:((stB o).tags[n]?.bind fun x=>x)=none:=by
     cases o with
     |none=>rfl
     |some t=>
      simp only[stB,Vapate.TAGS]
      by_cases c:n<4
      ·rw[List.getElem?_replicate,if_pos c];rfl
      ·rw[List.getElem?_replicate,if_neg c];rfl
    rw[this]
    rfl
   ·have:(stB o).stores.getD i []=[]:=by
     cases o with
     |none=>rfl
     |some t=>
      simp only[stB,Vapate.STORES,List.getD_eq_getElem?_getD]
      by_cases c:i<3
      ·rw[List.getElem?_replicate,if_pos c];rfl
      ·rw[List.getElem?_replicate,if_neg c];rfl
    rw[this]
    exact StD.nil
   ·cases o with
    |none=>exact hv
    |some t=>
     obtain ⟨a,kvs,rfl,q1,q2⟩:=hv
     have har:a≠r:=Dv q1 hH (by intro q;cases q)
     refine ⟨a,kvs,rfl,?_,q2.t (hT7.trans (Vp hmut))⟩
     rw[Ep (old q1 har (hF.dict q1))]
     exact e07 _ _ q1 har
   ·rw[List.nodup_cons,List.nodup_cons]
    refine ⟨fun q=>?_,fun q=>?_,hdn⟩
    ·rcases List.mem_cons.1 q with q|q
     ·rw[<-q,e _ _ h3d]at ht4;cases ht4
     ·rw[(hda rd q).1]at h3d;cases h3d
    ·rw[(hda td q).2]at ht4;cases ht4
def Jl (K:PySem.W.Frag) (C:Addr):Sp:=fun vs H Q _=>∃(F:Addr->Prop) (r dx:Addr),vs=[.ref r]/\H r=some (.ins C dx [])/\FOk F H/\¬F r/\∀H',Kp K C F H' r Vapate.start->But (·=r) H H'->Q .non H'
theorem Op (T:BJ K mg) (cK:ClK K C) (D:Ed K mg C "Keeper" "Keeper.__init__" EZ ["self"]) (Cn:OkM P w K mg base 1 C "begin" ["self","first_tree"] (My K C)):OkI P w K mg base 2 C "Keeper" ["self"] (Jl K C):=by
 have AM:=cK.cl
 refine D.ok LO (fun vs H Q E h=>?_) (fun f cdv A outer s H vs Q E hr h=>?_)
 ·obtain ⟨F,r,dx,rfl,_⟩:=h
  rfl
 ·obtain ⟨F,r,dx,rfl,hH,hF,hFr,k⟩:=h
  refine ⟨_,(A5 (BE (Bl Cn AM (hr.mono (by decide)) (pv 0) (A0 At A3)))),?_⟩
  trivial
  exact ⟨dx,[],hH,rfl,F,r,dx,.non,[],none,rfl,hH,.inl rfl,rfl,hF,hFr,k⟩
end
end
section
open Vapate (Known find blockOf endsOf needsOf)
def Ans (K:PySem.W.Frag) (C:Addr) (F:Addr->Prop) (r:Addr) (H:Hp) (s:Vapate.State) (ans:List Int) (Q:VK):Prop:=∀H' a,Kp K C F H' r s->Bm (·=r) H H'->¬F a->H' a=some (.lst (ans.map V.int))->Q (.ref a) H'
section
variable {K:PySem.W.Frag} {C:Addr} {F:Addr->Prop} {H H':Hp} {r:Addr} {s:Vapate.State} {ans:List Int} {Q:VK}
theorem Ans.ro (k:Ans K C F r H s ans Q) (h:Kp K C F H r s) (e:A1 H H') {a:Addr} (n:H a=none) (ha:H' a=some (.lst (ans.map V.int))):Q (.ref a) H':=k H' a (h.same e) (A1.stay e) (h.fok.some n) ha
theorem Ans.one {z:Int} (k:Ans K C F r H s [z] Q) (h:Kp K C F H r s) {c:Addr} (hc:H c=none):Q (.ref c) (upd H c (.lst [.int z])):=k.ro h (A1.new hc) hc A4
theorem Ans.at (k:Ans K C F r H s ans Q) (e:Bm (·=r) H H'):Ans K C F r H' s ans Q:=fun H2 a h1 h2=>k H2 a h1 (e.trans h2)
theorem none_of {H H':Hp} (e:A1 H H') {a:Addr} (h:H' a=none):H a=none:=by
 cases q:H a with
 |none=>rfl
 |some o=>rw[e _ _ q]at h;cases h
end
theorem S3 {s:Vapate.State} (h:s.tree=none) {z:Int} {f:VapatBase.Tree->Nat->Vapate.Names->Vapate.State×Vapate.Answer}:Vapate.onStore s z f=(s,[-8]):=by
 unfold Vapate.onStore Vapate.onTree
 rw[h]
 rfl
theorem EA {t:VapatBase.Tree} {s:Vapate.State} (T:Ps.Bn t s) {z:Int} (hz:¬(0<=z/\z<3)) {f:VapatBase.Tree->Nat->Vapate.Names->Vapate.State×Vapate.Answer}:Vapate.onStore s z f=(s,[-2]):=by
 unfold Vapate.onStore Vapate.onTree
 rw[T.tree]
 simp only
 rw[Ps.GA T,if_neg hz]
 rfl
theorem DG {t:VapatBase.Tree} {s:Vapate.State} (T:Ps.Bn t s) {n:Nat} (hn:n<3) {f:VapatBase.Tree->Nat->Vapate.Names->Vapate.State×Vapate.Answer}:Vapate.onStore s (n:Int) f=f t n (s.stores.getD n []):=by
 unfold Vapate.onStore Vapate.onTree
 rw[T.tree]
 simp only
 rw[Ps.GA T,if_pos (by omega)]
 simp only[Int.toNat_natCast]
 rfl
section
variable {P:Program} {w:World} {K:PySem.W.Frag} {mg:Str->Option Value} {base:Heap} {C B:Addr}
abbrev FP:Stmt:=top 80
theorem Mz:AC ["keeper","store"] ["keeper","store"] (A7 FP):=⟨rfl,rfl,rfl,by decide+kernel,rfl,by decide+kernel,by decide+kernel⟩
def Bg (K:PySem.W.Frag) (C:Addr):Sp:=fun vs H Q _=>∃(F:Addr->Prop) (r:Addr) (s:Vapate.State) (z:Int),vs=[.ref r,.int z]/\Kp K C F H r s/\(s.tree=none->Q (.int (-8)) H)/\(∀t,s.tree=some t->¬(0<=z/\z<3)->Q (.int (-2)) H)/\(∀t,s.tree=some t->0<=z->z<3->Q .non H)
theorem N0 (T:BJ K mg) (cK:ClK K C) (D:AA K mg "store_refusal" FP ["keeper","store"]):OkF P w K mg base 1 "store_refusal" ["keeper","store"] (Bg K C):=by
 have AM:=cK.cl
 refine D.ok Mz (fun vs H Q E h=>?_) (fun f cdv A outer s H vs Q E hr h=>?_)
 ·obtain ⟨F,r,s,z,rfl,_⟩:=h
  rfl
 ·obtain ⟨F,r,s,z,rfl,⟨dx,fs,vt,ra,sa,ta,ds,h⟩,k1,k2,k3⟩:=h
  have hu:=Ao hr
  refine ⟨_,(A2 (AH (AG (C5 (AY (pv 0) rfl)))
   (A5 (A6 (AI T.NO_TREE)))
   AB)
   (A2 (AH (Bd (Ej CN Qs A9 (pv 1) (AI T.STORES)))
   (A5 (A6 (AI T.NO_SUCH_STORE)))
   AB)
   (A5 (A6 At)))),?_⟩
  trivial
  have ht:=h.tree
  refine ⟨C,dx,fs,h.ins,cK.cl,cK.ft,_,h.fl.ft,?_⟩
  cases e:s.tree with
  |none=>
   rw[e]at ht
   exact ifT ht (k1 e)
  |some t=>
   rw[e]at ht
   obtain ⟨a,kvs,rfl,-⟩:=ht
   refine ifF (fun q=>nomatch q) ?_
   by_cases h0:0<=z
   ·refine ifT h0 ?_
    by_cases h3:z<3
    ·exact ifF (fun q=>q h3) (k3 t e h0 h3)
    ·exact ifT h3 (k2 t e fun q=>h3 q.2)
   ·exact ifF h0 (k2 t e fun q=>h0 q.1)
abbrev HP:Stmt:=top 81
theorem Kj:AC ["keeper","numbers","tree"] ["keeper","numbers"] (A7 HP):=⟨rfl,rfl,rfl,by decide+kernel,rfl,by decide+kernel,by decide+kernel⟩
def Kk (K:PySem.W.Frag) (C:Addr):Sp:=fun vs H Q _=>∃(F:Addr->Prop) (r:Addr) (s:Vapate.State) (a:Addr) (ns:List Int),vs=[.ref r,.ref a]/\Kp K C F H r s/\SqL K H a (ns.map V.int)/\ns.length<=5000/\Ans K C F r H (Vapate.step s (.tree ns)).1 (Vapate.step s (.tree ns)).2 Q
theorem QL (T:BJ K mg) (cK:ClK K C) (D:AA K mg "begin_tree" HP ["keeper","numbers"]) (JO:OkF P w K mg base 3 "read_tree" ["numbers"] (LJ K)) (Cn:OkM P w K mg base 1 C "begin" ["self","first_tree"] (My K C)):OkF P w K mg base 4 "begin_tree" ["keeper","numbers"] (Kk K C):=by
 have AM:=cK.cl
 refine D.ok Kj (fun vs H Q E h=>?_) (fun f cdv A outer s H vs Q E hr h=>?_)
 ·obtain ⟨F,r,s,a,ns,rfl,_⟩:=h
  rfl
 ·obtain ⟨F,r,s,a,ns,rfl,hK,hS,hl,k⟩:=h
  have hu:=Ao hr
  refine ⟨_,(A2 (AE (i:=2) Kj.nd rfl (by nofun) (AD JO (hr.mono (by decide)) (A0 (pv 1) A3)))
   (A2 (AH (AG (C5 (pv 2)))
   (A5 (A6 (Af (A0 (AI T.NOT_WHOLE) A3))))
   AB)
   (A2 (BE (Bl Cn AM (hr.mono (by decide)) (pv 0) (A0 (pv 2) A3)))
   (A5 (A6 (Af (A0 (AN HB (by rfl) T.len PySem.boot_len (A0 (pv 2) A3)) A3))))))),?_⟩
  trivial
  simp only[Vapate.step,Ps.Ke]at k
  refine ⟨a,ns,rfl,hS,hl,fun H1 e1 hn=>ifT rfl ⟨AX (by omega),fun p hp=>?_⟩,fun H1 v t e1 ht hv=>?_⟩
  ·rw[hn]at k
   exact (Ans.at k (A1.stay e1)).one (hK.same e1) hp
  ·rw[ht]at k
   obtain ⟨ta0,kvs,rfl,q1,q2⟩:=hv
   obtain ⟨dx,fs,vt,ra,sa,ta,ds,h⟩:=hK.same e1
   have hne:ta0≠r:=Dv q1 h.ins (by intro q;cases q)
   refine ifF (fun q=>nomatch q) ⟨dx,fs,h.ins,h.fl.N.m1,F,r,dx,.ref ta0,fs,some t,rfl,h.ins,.inr ⟨_,_,_,_,h.fl⟩,⟨ta0,kvs,rfl,q1,q2⟩,h.fok,h.nf,fun H2 hK2 b2=>⟨ta0,rfl,kvs,b2 _ _ q1 hne,AX (by omega),fun p hp=>?_⟩⟩
   rw[q2.len (Ps.M6 ht).1]
   exact (Ans.at k ((A1.stay e1).trans (But.stay b2))).one hK2 hp
def E7 (K:PySem.W.Frag) (C:Addr) (g:VapatBase.Tree->List Known->List Nat->List Int):Sp:=fun vs H Q _=>∃(F:Addr->Prop) (r:Addr) (s:Vapate.State) (t:VapatBase.Tree) (n:Nat),vs=[.ref r,iN n]/\Kp K C F H r s/\Ps.Bn t s/\n<3/\Ans K C F r H s (g t s.known (s.stores.getD n [])) Q
abbrev HQ:Stmt:=top 85
theorem Kl:AC ["keeper","store","names"] ["keeper","store"] (A7 HQ):=⟨rfl,rfl,rfl,by decide+kernel,rfl,by decide+kernel,by decide+kernel⟩
theorem QM (T:BJ K mg) (cK:ClK K C) (D:AA K mg "tell_known" HQ ["keeper","store"]) (AK:OkM P w K mg base 1 C "names_in" ["self","store"] (Bp K C)):OkF P w K mg base 2 "tell_known" ["keeper","store"] (E7 K C fun _ _ a=>Vapate.listed a):=by
 have AM:=cK.cl
 refine D.ok Kl (fun vs H Q E h=>?_) (fun f cdv A outer s H vs Q E hr h=>?_)
 ·obtain ⟨F,r,s,t,n,rfl,_⟩:=h
  rfl
 ·obtain ⟨F,r,s,t,n,rfl,hK,hT,hn,k⟩:=h
  have hu:=Ao hr
  refine ⟨_,(A2 (AE (i:=2) Kl.nd rfl (by nofun) (Bl AK AM (hr.mono (by decide)) (pv 0) (A0 (pv 1) A3)))
   (A5 (A6 (As FA (Af (A0 (AN AJ (by rfl) T.len PySem.boot_len (A0 (pv 2) A3)) A3)) (pv 2))))),?_⟩
  trivial
  obtain ⟨dx,fs,vt,ra,sa,ta,ds,h⟩:=id hK
  have na:=hT.nok hn
  have hl:=na.len hT.I
  refine ⟨dx,fs,h.ins,h.fl.N.m2,F,r,s,n,rfl,hK,hn,na.up,by omega,fun p hp=>⟨p,rfl,_,.inl (SqL.of A4),AX (by omega),fun q hq=>⟨p,rfl,_,A4,_,by rw[A8 (AV A4 hq)];exact A4,AX ?_,fun c hc=>?_⟩⟩⟩
  ·simp only[List.length_map,List.length_cons,List.length_nil]
   omega
  ·have e1:=(A1.new (o:=.lst ((s.stores.getD n []).map iN)) hp).trans (A1.new (o:=.lst [V.int (((s.stores.getD n []).map iN).length:Nat)]) hq)
   refine Ans.ro k hK (e1.trans (A1.new hc)) (none_of e1 hc) ?_
   rw[A4]
   simp[Vapate.listed,Vapate.ints,Vapate.int,iN]
abbrev JP:Stmt:=top 86
theorem SY:AC ["keeper","store"] ["keeper","store"] (A7 JP):=⟨rfl,rfl,rfl,by decide+kernel,rfl,by decide+kernel,by decide+kernel⟩
theorem SZ (T:BJ K mg) (cK:ClK K C) (D:AA K mg "tell_row" JP ["keeper","store"]) (Aq:OkM P w K mg base 12 C "row_in" ["self","store"] (Gx K C)) (E8:OkF P w K mg base 3 "write_row" ["row"] (II K)):OkF P w K mg base 13 "tell_row" ["keeper","store"] (E7 K C fun _ ks a=>Vapatc.rowTold (Vapate.rowOf ks a)):=by
 have AM:=cK.cl
 refine D.ok SY (fun vs H Q E h=>?_) (fun f cdv A outer s H vs Q E hr h=>?_)
 ·obtain ⟨F,r,s,t,n,rfl,_⟩:=h
  rfl
 ·obtain ⟨F,r,s,t,n,rfl,hK,hT,hn,k⟩:=h
  have hu:=Ao hr
  refine ⟨_,(A5 (A6 (AD E8 (hr.mono (by decide)) (A0 (Bl Aq AM (hr.mono (by decide)) (pv 0) (A0 (pv 1) A3)) A3)))),?_⟩
  trivial
  obtain ⟨dx,fs,vt,ra,sa,ta,ds,h⟩:=id hK
  have na:=hT.nok hn
  have hl:=hT.row_len na
  exact ⟨dx,fs,h.ins,h.fl.N.m3,F,r,s,t,n,rfl,hK,hT,hn,fun H1 y e1 hy=>⟨y,_,rfl,hy,(Ps.DO hT.srt hT.I na.kn).good,by omega,fun H2 a e2 n2 h2=>Ans.ro k hK (e1.trans e2) (none_of e1 n2) h2⟩⟩
theorem KpS.treeV {F:Addr->Prop} {H:Hp} {r:Addr} {s:Vapate.State} {dx:Addr} {fs:List (Str×V)} {vt:V} {ra sa ta:Addr} {ds:List Addr} (h:KpS K C F H r s dx fs vt ra sa ta ds) {t:VapatBase.Tree} (ht:s.tree=some t):Pz.treeV K H vt t:=by
 have:=h.tree
 rw[ht]at this
 exact Pz.treeV.same Ch this
abbrev Fv:Stmt:=top 87
theorem Nj:AC ["keeper","store"] ["keeper","store"] (A7 Fv):=⟨rfl,rfl,rfl,by decide+kernel,rfl,by decide+kernel,by decide+kernel⟩
theorem Nk (T:BJ K mg) (cK:ClK K C) (D:AA K mg "tell_outcome" Fv ["keeper","store"]) (Aq:OkM P w K mg base 12 C "row_in" ["self","store"] (Gx K C)) (DY:OkF P w K mg base 2 "write_tree" ["tree"] (HM K)) (DB:OkF P w K mg base 3 "outcome" ["tree","row"] (Ho K)):OkF P w K mg base 13 "tell_outcome" ["keeper","store"] (E7 K C fun t ks a=>Vapate.treeTold (Vapate.outcome t ks a)):=by
 have AM:=cK.cl
 refine D.ok Nj (fun vs H Q E h=>?_) (fun f cdv A outer s H vs Q E hr h=>?_)
 ·obtain ⟨F,r,s,t,n,rfl,_⟩:=h
  rfl
 ·obtain ⟨F,r,s,t,n,rfl,hK,hT,hn,k⟩:=h
  have hu:=Ao hr
  refine ⟨_,(A5 (A6 (AD DY (hr.mono (by decide)) (A0 (AD DB (hr.mono (by decide)) (A0 (AY (pv 0) rfl) (A0 (Bl Aq AM (hr.mono (by decide)) (pv 0) (A0 (pv 1) A3)) A3))) A3)))),?_⟩
  trivial
  obtain ⟨dx,fs,vt,ra,sa,ta,ds,h⟩:=id hK
  have na:=hT.nok hn
  have hl:=hT.row_len na
  obtain ⟨u,o1,o2,o3,o4⟩:=hT.outcome na
  refine ⟨C,dx,fs,h.ins,cK.cl,cK.ft,_,h.fl.ft,dx,fs,h.ins,h.fl.N.m3,F,r,s,t,n,rfl,hK,hT,hn,fun H1 y e1 hy=>⟨vt,y,t,u,_,rfl,Pz.treeV.same e1 (h.treeV hT.tree),hy,(Ps.DO hT.srt hT.I na.kn).good,hT.srt,hT.tb,by omega,o2,fun H2 x e2 hx=>⟨x,u,rfl,hx,o3,o4.mono (by omega) (by omega),fun H3 a e3 n3 h3=>Ans.ro k hK ((e1.trans e2).trans e3) (none_of (e1.trans e2) n3) ?_⟩⟩⟩
  simp only[o1]
  exact h3
end
end
section
open Vapate (Known find blockOf endsOf needsOf)
theorem Gj.at {K:PySem.W.Frag} {H:Hp} {kvs:List (Key×V)} {ks:List Known} (h:Gj K H kvs ks) (z:Int):(z<0\/find ks z.toNat=Option.none->Ae kvs (Sum.inl z)=Option.none)/\∀k,0<=z->find ks z.toNat=Option.some k->∃u,Ae kvs (Sum.inl z)=Option.some u/\Lf K H u k:=by
 have h2:=h.2.2 z.toNat
 refine ⟨fun q=>?_,fun k hz e=>?_⟩
 ·by_cases c:z<0
  ·cases e:Ae kvs (Sum.inl z) with
   |none=>rfl
   |some u=>
    obtain ⟨n,hn⟩:=h.2.1 _ (MF e)
    have:z=(n:Int):=Sum.inl.inj hn
    omega
  ·rcases q with q|q
   ·exact absurd q c
   ·rw[q]at h2
    rw[Int.toNat_of_nonneg (by omega)]at h2
    exact h2
 ·rw[e]at h2
  rw[Int.toNat_of_nonneg hz]at h2
  exact h2
section
variable {P:Program} {w:World} {K:PySem.W.Frag} {mg:Str->Option Value} {base:Heap} {C B:Addr}
abbrev Ey:Stmt:=top 88
theorem DQ:AC ["keeper","store","pairs","numbers","pair"] ["keeper","store"] (A7 Ey):=⟨rfl,rfl,rfl,by decide+kernel,rfl,by decide+kernel,by decide+kernel⟩
theorem MS (T:BJ K mg) (cK:ClK K C) (D:AA K mg "tell_conflicts" Ey ["keeper","store"]) (AK:OkM P w K mg base 1 C "names_in" ["self","store"] (Bp K C)) (BY:OkF P w K mg base 9 "conflicting_pairs" ["recorded","names"] (Dq K)):OkF P w K mg base 10 "tell_conflicts" ["keeper","store"] (E7 K C fun _ ks a=>Vapate.int (Vapate.conflicts ks a).length::(Vapate.conflicts ks a).flatMap fun x=>[Vapate.int x.1,Vapate.int x.2]):=by
 have AM:=cK.cl
 refine D.ok DQ (fun vs H Q E h=>?_) (fun f cdv A outer s H vs Q E hr h=>?_)
 ·obtain ⟨F,r,s,t,n,rfl,_⟩:=h
  rfl
 ·obtain ⟨F,r,s,t,n,rfl,hK,hT,hn,k⟩:=h
  have hu:=Ao hr
  refine ⟨_,(A2 (AE (i:=2) DQ.nd rfl (by nofun) (AD BY (hr.mono (by decide)) (A0 (AY (pv 0) rfl) (A0 (Bl AK AM (hr.mono (by decide)) (pv 0) (A0 (pv 1) A3)) A3))))
   (A2 (AE (i:=3) DQ.nd rfl (by nofun) (Af (A0 (AN AJ (by rfl) T.len PySem.boot_len (A0 (pv 2) A3)) A3)))
   (A2 (BH PassesOwn.never rfl (B4 (pv 2)) (AZ (i:=4) DQ.nd rfl (by nofun))
   (A5 (BE (Es (r:=Ih K) PySem.F.plainAttrs_list PySem.F.slot_list_extend PySem.F.type_list_extend UB (pv 3) (A0 (pv 4) A3)))))
   (A5 (A6 (pv 3)))))),?_⟩
  trivial
  obtain ⟨dx,fs,vt,ra,sa,ta,ds,h⟩:=id hK
  have na:=hT.nok hn
  have hl:=na.len hT.I
  have hcl:=Ps.Kt (ks:=s.known) hl
  dsimp only at k
  refine ⟨C,dx,fs,h.ins,cK.cl,cK.rc,_,h.fl.rc,dx,fs,h.ins,h.fl.N.m2,F,r,s,n,rfl,hK,hn,na.up,by omega,fun p hp=>?_⟩
  have e0:=A1.new (o:=.lst ((s.stores.getD n []).map iN)) hp
  refine ⟨.ref ra,p,s.known,_,t,rfl,(h.same e0).stp hT na A4,fun H1 pa xs e1 hpa hxs hxl=>⟨pa,rfl,_,.inl (SqL.of hpa),AX (by omega),fun q hq=>⟨pa,rfl,⟨_,(A1.new hq).seq (SqL.of hpa)⟩,?_⟩⟩⟩
  have lx:xs.length=(Vapate.conflicts s.known (s.stores.getD n [])).length:=Paired.length hxs
  have e01:=e0.trans e1
  have hpq:pa≠q:=AV hpa hq
  generalize Vapate.conflicts s.known (s.stores.getD n [])=cf at*
  refine FX (H0:=H1) (Ay (SqL.of hpa)) (fun i σ H'=>A1 H1 H'/\∃(o:Option V),σ=[some (.ref r),some (iN n),some (.ref pa),some (.ref q),o]/\H' q=some (.lst ((((cf.length:Nat):Int)::(cf.take i).flatMap fun x=>[Vapate.int x.1,Vapate.int x.2]).map V.int)))
   ⟨A1.new hq,none,rfl,by rw[A4,lx];rfl⟩ (fun i σ H' h=>h.1) ?_ ?_
  ·rintro i x σ H' hx ⟨e,o,rfl,hy⟩
   obtain ⟨c,hc,b,rfl,hb⟩:=By hxs hx
   have hlt:=Ps.Ec (fun x:Nat×Nat=>Vapate.int x.1) (fun x=>Vapate.int x.2) (cf.take i)
   have hlt2:(cf.take i).length<=cf.length:=by rw[List.length_take];omega
   trivial
   refine ⟨.inl ⟨rfl,_,SqL.of hy⟩,_,hy,_,AQ.of e _ _ hb,AX (by simp only[List.length_map,List.length_cons,List.length_nil];omega),A1.put e hq,?_⟩
   rw[A4,Ai hc,List.flatMap_append]
   simp[iN,Vapate.int]
  ·rintro σ H' ⟨e,o,rfl,hy⟩
   rw[lx,List.take_length]at hy
   trivial
   exact Ans.ro k hK (e01.trans e) (none_of e01 hq) hy
abbrev Fw:Stmt:=top 89
theorem CP:AC ["keeper","store","names","live","acting","idle","numbers","name"] ["keeper","store"] (A7 Fw):=⟨rfl,rfl,rfl,by decide+kernel,rfl,by decide+kernel,by decide+kernel⟩
theorem RH (T:BJ K mg) (cK:ClK K C) (D:AA K mg "tell_idle" Fw ["keeper","store"]) (AK:OkM P w K mg base 1 C "names_in" ["self","store"] (Bp K C)) (Bu:OkF P w K mg base 2 "live_names" ["recorded","names"] (FE K)) (Ck:OkF P w K mg base 10 "acting_names" ["recorded","names"] (Fq K)):OkF P w K mg base 11 "tell_idle" ["keeper","store"] (E7 K C fun _ ks a=>Vapate.int (a.filter fun n=>Vapate.whyIdle ks a n !=0).length::(a.filter fun n=>Vapate.whyIdle ks a n !=0).flatMap fun n=>[Vapate.int n,Vapate.int (Vapate.whyIdle ks a n)]):=by
 have AM:=cK.cl
 refine D.ok CP (fun vs H Q E h=>?_) (fun f cdv A outer s H vs Q E hr h=>?_)
 ·obtain ⟨F,r,s,t,n,rfl,_⟩:=h
  rfl
 ·obtain ⟨F,r,s,t,n,rfl,hK,hT,hn,k⟩:=h
  have hu:=Ao hr
  refine ⟨_,(A2 (AE (i:=2) CP.nd rfl (by nofun) (Bl AK AM (hr.mono (by decide)) (pv 0) (A0 (pv 1) A3)))
   (A2 (AE (i:=3) CP.nd rfl (by nofun) (AD Bu (hr.mono (by decide)) (A0 (AY (pv 0) rfl) (A0 (pv 2) A3))))
   (A2 (AE (i:=4) CP.nd rfl (by nofun) (AD Ck (hr.mono (by decide)) (A0 (AY (pv 0) rfl) (A0 (pv 2) A3))))
   (A2 (S2 (i:=5) (own:=[("name",7)]) rfl CP.nd rfl rfl (TK rfl rfl (by rfl) (by rfl)) (B4 (pv 2)) (Ca (N:=["keeper","store","names","live","acting","idle","numbers","name"]) (sc:=A7 Fw) (by decide+kernel)) (fun _ _ _ _ _=>(AZ (i:=7) CP.nd rfl (by nofun))) (fun _ _ _ _ _=>(ML (BZ (r:=rIn K true) Rm (pv 7) (pv 4) (by with_unfolding_all rfl)))) (fun _ _ _ _ _=>(pv 7)))
   (A2 (AE (i:=6) CP.nd rfl (by nofun) (Af (A0 (AN AJ (by rfl) T.len PySem.boot_len (A0 (pv 5) A3)) A3)))
   (A2 (BH PassesOwn.never rfl (B4 (pv 5)) (AZ (i:=7) CP.nd rfl (by nofun))
   (A2 (BE (Es PySem.F.plainAttrs_list PySem.F.slot_list_append PySem.F.type_list_append Dk (pv 6) (A0 (pv 7) A3)))
    (A5 (BE (Es PySem.F.plainAttrs_list PySem.F.slot_list_append PySem.F.type_list_append Dk (pv 6) (A0 (NQ (BZ (r:=rIn K false) Dj (pv 7) (pv 3) (by with_unfolding_all rfl)) (AI T.IN_CONFLICT) (AI T.NOT_LIVE)) A3))))))
   (A5 (A6 (pv 6))))))))),?_⟩
  trivial
  obtain ⟨dx,fs,vt,ra,sa,ta,ds,h⟩:=id hK
  have na:=hT.nok hn
  have hl:=na.len hT.I
  have hal:(Vapate.acting s.known (s.stores.getD n [])).length<=12:=Nat.le_trans (Nat.le_trans (List.length_filter_le _ _) (List.length_filter_le _ _)) hl
  have hll:(Vapate.live s.known (s.stores.getD n [])).length<=12:=Nat.le_trans (List.length_filter_le _ _) hl
  have hwhy:∀m,Vapate.whyIdle s.known (s.stores.getD n []) m=if (Vapate.live s.known (s.stores.getD n [])).contains m then if (Vapate.acting s.known (s.stores.getD n [])).contains m then 0 else 2 else 1:=by
   intro m
   unfold Vapate.whyIdle
   cases (Vapate.live s.known (s.stores.getD n [])).contains m<;>rfl
  have hact:∀m,m∈Vapate.acting s.known (s.stores.getD n [])->m∈Vapate.live s.known (s.stores.getD n []):=fun m=>Ps.Br
  dsimp only at k
  generalize Vapate.whyIdle s.known (s.stores.getD n [])=why at*
  refine ⟨dx,fs,h.ins,h.fl.N.m2,F,r,s,n,rfl,hK,hn,na.up,by omega,fun p hp=>?_⟩
  have e0:=A1.new (o:=.lst ((s.stores.getD n []).map iN)) hp
  have h0:=h.same e0
  refine ⟨C,dx,fs,h0.ins,cK.cl,cK.rc,_,h0.fl.rc,.ref ra,p,s.known,_,t,rfl,h0.stp hT na A4,fun H1 la e1 hla=>?_⟩
  have h1:=h0.same e1
  refine ⟨C,dx,fs,h1.ins,cK.cl,cK.rc,_,h1.fl.rc,.ref ra,p,s.known,_,t,rfl,h1.stp hT na (e1 _ _ A4),fun H2 aa e2 haa=>?_⟩
  have hp2:=e2 _ _ (e1 _ _ A4)
  have hla2:=e2 _ _ hla
  have e02:=(e0.trans e1).trans e2
  generalize Vapate.live s.known (s.stores.getD n [])=lv at*
  generalize Vapate.acting s.known (s.stores.getD n [])=ac at*
  generalize s.stores.getD n []=a at*
  refine ⟨p,rfl,⟨_,SqL.of hp2⟩,Lm K (as:=a) (F:=fun x m=>x=iN m) (R:=fun _ m y=>y=iN m) (keep:=fun m=>why m !=0) (Ay (SqL.of hp2)) (E9 _) (szl (by rw[List.length_map];omega)) (fun _ _ _ _ _ h=>h) ?_ ?_⟩
  ·intro x m hx _ H3 e3 Qe Qn q1 q2
   subst hx
   refine ⟨by simp[BQ],_,rfl,_,rfl,aa,_,rfl,.inl (SqL.of (e3 _ _ haa)),rfl,Dz _,_,rfl,?_⟩
   rw[Fe]
   cases hc:List.contains ac m with
   |true=>
    have:why m=0:=by
     rw[hwhy,hc,if_pos rfl,if_pos]
     simpa using hact m (by simpa using hc)
    exact ifF (by simp) (q2 (by rw[this];rfl) _ (A1.refl _))
   |false=>
    have:(why m !=0)=true:=by
     rw[hwhy,hc]
     cases List.contains lv m<;>rfl
    exact ifT rfl ⟨_,rfl,q1 this _ _ (A1.refl _) rfl⟩
  ·intro D3 H3 ys e3 hD3 hp3
   have ey:ys=(a.filter fun m=>why m !=0).map iN:=Df hp3
   subst ey
   have hil:=List.length_filter_le (fun m=>why m !=0) a
   have hmem:∀m∈(a.filter fun m=>why m !=0),why m=if List.contains lv m then 2 else 1:=by
    intro m hm
    have h2:=(List.mem_filter.1 hm).2
    rw[hwhy]at h2 ⊢
    revert h2
    cases List.contains lv m<;>cases List.contains ac m<;>simp
   generalize (a.filter fun m=>why m !=0)=il at*
   trivial
   refine ⟨_,.inl (SqL.of hD3),AX (by omega),fun q hq=>⟨⟨_,(A1.new hq).seq (SqL.of hD3)⟩,?_⟩⟩
   refine FX (H0:=H3) (Ay (SqL.of hD3)) (fun i σ H'=>A1 H3 H'/\∃(o:Option V),σ=[some (.ref r),some (iN n),some (.ref p),some (.ref la),some (.ref aa),some (.ref D3),some (.ref q),o]/\H' q=some (.lst ((((il.length:Nat):Int)::(il.take i).flatMap fun x=>[Vapate.int x,Vapate.int (why x)]).map V.int)))
    ⟨A1.new hq,none,rfl,by rw[A4,List.length_map];rfl⟩ (fun i σ H' h=>h.1) ?_ ?_
   ·rintro i x σ H' hx ⟨e,o,rfl,hy⟩
    rw[List.getElem?_map]at hx
    obtain ⟨m,hm,rfl⟩:=Option.map_eq_some_iff.1 hx
    have hlt:=Ps.Ec (fun x:Nat=>Vapate.int x) (fun x=>Vapate.int (why x)) (il.take i)
    have hlt2:(il.take i).length<=il.length:=by rw[List.length_take];omega
    have hwm:=hmem m (List.mem_of_getElem? hm)
    have hla3:=e _ _ (e3 _ _ hla2)
    have hlq:la≠q:=AV (e3 _ _ hla2) hq
    trivial
    refine ⟨.inl ⟨rfl,_,SqL.of hy⟩,_,hy,szl (by simp only[List.length_map,List.length_cons];omega),.inl ⟨rfl,_,SqL.of A4⟩,_,.inl (SqL.of (by rw[A8 hlq];exact hla3)),rfl,Dz _,?_⟩
    rw[Fe]
    cases hc:List.contains lv m with
    |true=>
     rw[hc,if_pos rfl]at hwm
     refine ifT rfl ⟨_,A4,szl (by simp only[List.length_map,List.length_cons,List.length_append,List.length_nil];omega),?_⟩
     rw[C7]
     refine ⟨A1.put e hq,?_⟩
     rw[A4,Ai hm,List.flatMap_append]
     simp[iN,Vapate.int,hwm]
    |false=>
     rw[hc,if_neg (by simp)]at hwm
     refine ifF (by simp) ⟨_,A4,szl (by simp only[List.length_map,List.length_cons,List.length_append,List.length_nil];omega),?_⟩
     rw[C7]
     refine ⟨A1.put e hq,?_⟩
     rw[A4,Ai hm,List.flatMap_append]
     simp[iN,Vapate.int,hwm]
   ·rintro σ H' ⟨e,o,rfl,hy⟩
    rw[List.length_map,List.take_length]at hy
    trivial
    exact Ans.ro k hK ((e02.trans e3).trans e) (none_of (e02.trans e3) hq) hy
abbrev HR:Stmt:=top 90
theorem Km:AC ["keeper","name","patch"] ["keeper","name"] (A7 HR):=⟨rfl,rfl,rfl,by decide+kernel,rfl,by decide+kernel,by decide+kernel⟩
def Kn (K:PySem.W.Frag) (C:Addr):Sp:=fun vs H Q _=>∃(F:Addr->Prop) (r:Addr) (s:Vapate.State) (z:Int),vs=[.ref r,.int z]/\Kp K C F H r s/\Ps.Db s/\Ans K C F r H (Vapate.step s (.block z)).1 (Vapate.step s (.block z)).2 Q
theorem QN (T:BJ K mg) (cK:ClK K C) (D:AA K mg "tell_block" HR ["keeper","name"]) (E8:OkF P w K mg base 3 "write_row" ["row"] (II K)):OkF P w K mg base 4 "tell_block" ["keeper","name"] (Kn K C):=by
 have AM:=cK.cl
 refine D.ok Km (fun vs H Q E h=>?_) (fun f cdv A outer s H vs Q E hr h=>?_)
 ·obtain ⟨F,r,s,z,rfl,_⟩:=h
  rfl
 ·obtain ⟨F,r,s,z,rfl,hK,hS,k⟩:=h
  have hu:=Ao hr
  refine ⟨_,(A2 (AH (AG (C5 (AY (pv 0) rfl)))
   (A5 (A6 (Af (A0 (AI T.NO_TREE) A3))))
   AB)
   (A2 (AH (AG (Ci hu (pv 1) (AY (pv 0) rfl)))
   (A5 (A6 (Af (A0 (AI T.NAME_REFUSED) A3))))
   AB)
   (A2 (AE (i:=2) Km.nd rfl (by nofun) (C9 hu (AY (pv 0) rfl) (pv 1) (fun _ _=>rfl)))
   (A5 (A6 (As FA (As FA (AD E8 (hr.mono (by decide)) (A0 (AY (pv 2) rfl) A3)) (Af (A0 (AN AJ (by rfl) T.len PySem.boot_len (A0 (AY (pv 2) rfl) A3)) A3))) (AY (pv 2) rfl))))))),?_⟩
  trivial
  obtain ⟨dx,fs,vt,ra,sa,ta,ds,h⟩:=id hK
  have ht:=h.tree
  refine ⟨C,dx,fs,h.ins,cK.cl,cK.ft,_,h.fl.ft,?_⟩
  rcases hS with rfl|⟨t,hT⟩
  ·exact ifT ht ⟨AX (by omega),fun p hp=>Ans.one k hK hp⟩
  ·obtain ⟨ta0,tkv,rfl,-⟩:=h.treeV hT.tree
   refine ifF (fun q=>nomatch q) ?_
   obtain ⟨kvs,q1,q2,q3⟩:=h.rcs
   replace q2:=q2.same Ch
   refine ⟨C,dx,fs,h.ins,cK.cl,cK.rc,_,h.fl.rc,ra,rfl,_,B0.k (k:=Sum.inl z) q1,?_⟩
   simp only[Vapate.step,Vapate.onTree,hT.tree]at k
   cases e:(if z<0 then none else find s.known z.toNat) with
   |none=>
    rw[e]at k
    rw[(q2.at z).1 (by
     by_cases c:z<0
     ·exact .inl c
     ·rw[if_neg c]at e;exact .inr e)]
    exact ifT rfl ⟨AX (by omega),fun p hp=>Ans.one k hK hp⟩
   |some kk=>
    rw[e]at k
    by_cases c:z<0
    ·rw[if_pos c]at e;cases e
    rw[if_neg c]at e
    obtain ⟨u,hv,xa,B',dx',fs',vb,ve,rfl,r1,r2,r3,r4,r5,r6,r7,⟨pe,rfl,r8⟩⟩:=(q2.at z).2 kk (by omega) e
    rw[hv]
    have hkn:Ps.KN s.known z.toNat:=by unfold Ps.KN;rw[e];rfl
    have hb:blockOf s.known z.toNat=kk.block:=by unfold blockOf;rw[e];rfl
    have g:=hT.I.good _ hkn
    have l:=hT.I.row_len (Ps.Con.self hT.I.W hkn)
    rw[hb]at g l
    have hel:=(hT.ends kk (List.mem_of_find?_eq_some e)).1
    have hrl:=Ps.JU g l
    refine ifF (fun q=>nomatch q) ⟨C,dx,fs,h.ins,cK.cl,cK.rc,_,h.fl.rc,ra,rfl,_,by have:=B0.k (k:=Sum.inl z) q1;rw[hv]at this;exact this,xa,rfl,B',dx',fs',r1,r2,r3,vb,r5,vb,kk.block,rfl,r7,g,by omega,fun H1 a e1 n1 h1=>?_⟩
    refine ⟨xa,rfl,B',dx',fs',e1 _ _ r1,r2,r4,_,r6,pe,rfl,_,.inl (SqL.of (e1 _ _ r8)),AX (by omega),fun p hp=>⟨a,rfl,_,by rw[A8 (AV h1 hp)];exact h1,_,A4,AX (by simp only[List.length_map,List.length_cons,List.length_nil];omega),fun p1 hp1=>?_⟩⟩
    have e2:=A1.new (o:=.lst [V.int ((kk.ends.map iN).length:Nat)]) hp
    have e3:=A1.new (o:=.lst ((Vapatc.rowTold kk.block).map V.int++[V.int ((kk.ends.map iN).length:Nat)])) hp1
    refine ⟨xa,rfl,B',dx',fs',e3 _ _ (e2 _ _ (e1 _ _ r1)),r2,r4,_,r6,pe,rfl,_,A4,_,e3 _ _ (e2 _ _ (e1 _ _ r8)),AX (by simp only[List.length_map,List.length_cons,List.length_append,List.length_nil];omega),fun p2 hp2=>?_⟩
    have e13:=(e1.trans e2).trans e3
    refine Ans.ro k hK (e13.trans (A1.new hp2)) (none_of e13 hp2) ?_
    rw[A4]
    simp[Vapate.listed,Vapate.ints,Vapate.int,iN]
end
end
section
open Vapate (Known find blockOf endsOf needsOf)
theorem nor {a b:Prop} (ha:¬a) (hb:¬b):¬(a\/b):=fun h=>h.elim ha hb
def GC (s:Vapate.State) (z n:Int) (e:List Int) (o:Option VapatBase.Step):Option Int:=
 if s.tree=none then some (-8) else if ¬(0<=z/\z<3) then some (-2) else if ¬(0<=n/\n<=99)\/(find s.known n.toNat).isSome=true then some (-3)
 else if o=none then some (-1) else if 12<=s.known.length then some (-6) else if Vapate.namesTold (s.stores.getD z.toNat []) e=none then some (-5) else none
def Yo:Option Int->V
 |none=>.non
 |some z=>.int z
theorem WC {xs:List V} {a:Nat} (h:a<=xs.length):BG xs none (some (a:Int))=xs.take a:=by
 unfold BG
 rw[HT.sIx_nat,Nat.min_eq_left h]
 rfl
theorem Wg (l:List Int):(l.map V.int).all DV=true:=by simp[DV]
theorem X8 (t:Int) (l:List Int):inV (.int t) (l.map V.int)=l.contains t:=by
 unfold inV
 rw[List.any_map,Bool.eq_iff_iff]
 simp only[List.any_eq_true,Function.comp_def,List.contains_iff_mem,eqV,beq_iff_eq]
 constructor
 ·rintro ⟨x,hx,e⟩
  have:x=t:=by omega
  subst this
  exact hx
 ·intro h
  exact ⟨t,h,rfl⟩
theorem Ha (a:List Nat) (l:List Int):(Vapate.namesTold a l).isSome=true↔∀j z,l[j]?=some z->(Vapate.nameIn a z).isSome=true/\(l.take j).contains z=false:=by
 unfold Vapate.namesTold
 constructor
 ·intro h j z hz
  split at h
  next c=>
   rw[Bool.and_eq_true,List.all_eq_true,List.all_eq_true]at c
   refine ⟨c.1 z (List.mem_of_getElem? hz),?_⟩
   have:=c.2 (z,j) (by rw[List.mem_zipIdx_iff_getElem?];exact hz)
   simpa using this
  ·cases h
 ·intro h
  rw[if_pos]
  ·rfl
  ·rw[Bool.and_eq_true,List.all_eq_true,List.all_eq_true]
   refine ⟨fun z hz=>?_,fun z hz=>?_⟩
   ·obtain ⟨j,hj⟩:=List.getElem?_of_mem hz
    exact (h j z hj).1
   ·rw[List.mem_zipIdx_iff_getElem?]at hz
    rw[(h z.2 z.1 hz).2]
    rfl
theorem Hv (a:List Nat) (z:Int):(Vapate.nameIn a z).isSome=decide (0<=z/\z.toNat∈a):=by
 unfold Vapate.nameIn
 by_cases c:0<=z/\z.toNat∈a
 ·rw[if_pos (by simpa using c),decide_eq_true c];rfl
 ·rw[if_neg (by simpa using c),decide_eq_false c];rfl
theorem WE {s:Vapate.State} {z n x:Int} {e l:List Int} (hS:Ps.Db s) (h:GC s z n e (VapatBase.whole VapatBase.readStep l)=some x):Vapate.step s (.record z n e l)=(s,[x]):=by
 show Vapate.doRecord s z n e l=_
 unfold Vapate.doRecord
 unfold GC at h
 rcases hS with rfl|⟨t,hT⟩
 ·rw[if_pos (show Vapate.start.tree=none from rfl)]at h
  cases h
  exact S3 rfl
 ·rw[if_neg (by rw[hT.tree];simp)]at h
  by_cases hz:0<=z/\z<3
  ·rw[if_neg (fun q=>q hz)]at h
   obtain ⟨k,rfl⟩:=Int.eq_ofNat_of_zero_le hz.1
   rw[DG hT (by omega)]
   rw[Int.toNat_natCast]at h
   by_cases hn:0<=n/\n<=99
   ·have e1:Vapate.upTo n Vapatc.NAME=some n.toNat:=if_pos hn
    rw[e1]
    simp only
    by_cases hf:(find s.known n.toNat).isSome=true
    ·rw[if_pos (.inr hf)]at h
     cases h
     rw[if_pos hf]
     rfl
    ·rw[if_neg (nor (fun q=>q hn) hf)]at h
     rw[if_neg hf]
     cases ho:VapatBase.whole VapatBase.readStep l with
     |none=>
      rw[ho,if_pos rfl]at h
      cases h
      rfl
     |some p=>
      rw[ho,if_neg (by simp)]at h
      simp only
      by_cases hk:12<=s.known.length
      ·rw[if_pos hk]at h
       cases h
       exact if_pos hk
      ·rw[if_neg hk]at h
       rw[if_neg (show ¬Vapate.PATCHES<=s.known.length from hk)]
       cases ht:Vapate.namesTold (s.stores.getD k []) e with
       |none=>
        rw[ht,if_pos rfl]at h
        cases h
        rfl
       |some es=>rw[ht,if_neg (by simp)]at h;cases h
   ·rw[if_pos (.inl hn)]at h
    cases h
    have e1:Vapate.upTo n Vapatc.NAME=none:=if_neg hn
    rw[e1]
    rfl
  ·rw[if_pos hz]at h
   cases h
   exact EA hT hz
theorem W7 {t:VapatBase.Tree} {s:Vapate.State} {z n:Int} {e l:List Int} (hT:Ps.Bn t s) (h:GC s z n e (VapatBase.whole VapatBase.readStep l)=none):∃(k m:Nat) (p:VapatBase.Step) (es:List Nat),z=(k:Int)/\k<3/\n=(m:Int)/\find s.known m=none/\VapatBase.whole VapatBase.readStep l=some p/\s.known.length<12/\Vapate.namesTold (s.stores.getD k []) e=some es/\
  Vapate.step s (.record z n e l)=(match (Vapate.outcome t s.known (s.stores.getD k [])).bind fun u=>VapatBase.applied u p with
   |none=>(s,[-4])
   |some _=>let block:=((Vapatc.picked (Vapate.rowOf s.known (s.stores.getD k [])++[⟨m,p⟩]) [m]).map fun x=>x.1).getD []
    if es.any (Vapatc.namesOf block).contains then (s,[-7]) else ({s with known:=s.known++[⟨m,block,es⟩],stores:=s.stores.set k (Vapate.union (s.stores.getD k []) [m])},[Vapate.int (block.length - 1)])):=by
 unfold GC at h
 rw[if_neg (by rw[hT.tree];simp)]at h
 by_cases hz:0<=z/\z<3
 ·rw[if_neg (fun q=>q hz)]at h
  obtain ⟨k,rfl⟩:=Int.eq_ofNat_of_zero_le hz.1
  rw[Int.toNat_natCast]at h
  by_cases hn:0<=n/\n<=99
  ·by_cases hf:(find s.known n.toNat).isSome=true
   ·rw[if_pos (.inr hf)]at h
    cases h
   ·rw[if_neg (nor (fun q=>q hn) hf)]at h
    obtain ⟨m,rfl⟩:=Int.eq_ofNat_of_zero_le hn.1
    rw[Int.toNat_natCast]at hf
    cases ho:VapatBase.whole VapatBase.readStep l with
    |none=>rw[ho,if_pos rfl]at h;cases h
    |some p=>
     rw[ho,if_neg (by simp)]at h
     by_cases hk:12<=s.known.length
     ·rw[if_pos hk]at h
      cases h
     ·rw[if_neg hk]at h
      cases ht:Vapate.namesTold (s.stores.getD k []) e with
      |none=>rw[ht,if_pos rfl]at h;cases h
      |some es=>
       refine ⟨k,m,p,es,rfl,by omega,rfl,by simpa using hf,rfl,by omega,ht,?_⟩
       show Vapate.doRecord s k m e l=_
       unfold Vapate.doRecord
       rw[DG hT (by omega)]
       have e1:Vapate.upTo (m:Int) Vapatc.NAME=some m:=if_pos hn
       rw[e1]
       simp only
       rw[if_neg hf,ho]
       simp only
       rw[if_neg (show ¬Vapate.PATCHES<=s.known.length from hk),ht]
       rfl
  ·rw[if_pos (.inl hn)]at h
   cases h
 ·rw[if_pos hz]at h
  cases h
theorem W4 {K:PySem.W.Frag} {H:Hp} {v:V} {p:VapatBase.Step} (h:An K H v p):v≠.non:=by
 cases p with
 |hunk f a o n=>obtain ⟨_,_,_,rfl,_⟩:=h;exact fun q=>nomatch q
 |swap f x y=>obtain ⟨_,rfl,_⟩:=h;exact fun q=>nomatch q
 |add f=>obtain ⟨_,rfl,_⟩:=h;exact fun q=>nomatch q
 |remove f=>obtain ⟨_,rfl,_⟩:=h;exact fun q=>nomatch q
 |move f g=>obtain ⟨_,rfl,_⟩:=h;exact fun q=>nomatch q
section
variable {P:Program} {w:World} {K:PySem.W.Frag} {mg:Str->Option Value} {base:Heap} {C B:Addr}
abbrev Ez:Stmt:=top 82
theorem F0:AC ["keeper","store","ends","place","end"] ["keeper","store","ends"] (A7 Ez):=⟨rfl,rfl,rfl,by decide+kernel,rfl,by decide+kernel,by decide+kernel⟩
def Hg (K:PySem.W.Frag) (C:Addr):Sp:=fun vs H Q _=>∃(F:Addr->Prop) (r:Addr) (s:Vapate.State) (n:Nat) (ea:Addr) (e:List Int),vs=[.ref r,iN n,.ref ea]/\Kp K C F H r s/\n<3/\H ea=some (.lst (e.map V.int))/\e.length<=5000/\∀H',A1 H H'->Q (.bl (Vapate.namesTold (s.stores.getD n []) e).isSome) H'
theorem MT (T:BJ K mg) (cK:ClK K C) (D:AA K mg "ends_are_right" Ez ["keeper","store","ends"]):OkF P w K mg base 1 "ends_are_right" ["keeper","store","ends"] (Hg K C):=by
 have AM:=cK.cl
 refine D.ok F0 (fun vs H Q E h=>?_) (fun f cdv A outer s H vs Q E hr h=>?_)
 ·obtain ⟨F,r,s,n,ea,e,rfl,_⟩:=h
  rfl
 ·obtain ⟨F,r,s,n,ea,el,rfl,hK,hn,hea,hel,k⟩:=h
  have hu:=Ao hr
  refine ⟨_,(A2 (BH PassesOwn.never rfl (PM rfl T.enumerate (A0 (pv 2) A3)) (Ga (K:=K) (n:=2) rfl rfl (C2 (AZ (i:=3) F0.nd rfl (by nofun)) (C2 (AZ (i:=4) F0.nd rfl (by nofun)) Gc)))
   (A5 (AH (PW.pt (Ce (AG (Ci hu (pv 4) (AF (r:=B6 K) Ak (AY (pv 0) rfl) (pv 1) (fun _ _=>rfl)))) (Cs (BZ (r:=rIn K false) Dj (pv 4) (Bh (r:=HZ K) Fa (pv 2) D9 (Ba (pv 3))) (by with_unfolding_all rfl)))))
    (A5 (A6 JA))
    AB)))
   (A5 (A6 JA))),?_⟩
  trivial
  obtain ⟨dx,fs,vt,ra,sa,ta,ds,h⟩:=id hK
  obtain ⟨d,kv,hd,h1,h2,hat⟩:=h.dget hn
  refine ⟨⟨_,SqL.of hea⟩,WQ (H0:=H) (SqL.of hea) (fun i σ H'=>A1 H H'/\∃(o1 o2:Option V),σ=[some (.ref r),some (iN n),some (.ref ea),o1,o2]/\∀j z,j<i->el[j]?=some z->(Vapate.nameIn (s.stores.getD n []) z).isSome=true/\(el.take j).contains z=false)
   ⟨A1.refl _,none,none,rfl,by intro j z hj;omega⟩ (fun i σ H' h=>h.1) ?_ ?_⟩
  ·rintro i x Tp σ H' hx ⟨e,o1,o2,rfl,hold⟩ hT
   rw[List.getElem?_map]at hx
   obtain ⟨z,hz,rfl⟩:=Option.map_eq_some_iff.1 hx
   have eT:A1 H' (upd H' Tp (.tup [.int (i:Nat),.int z])):=A1.new hT
   trivial
   refine ⟨_,SqT.of A4,rfl,_,_,rfl,_,_,rfl,rfl,C,dx,fs,(e.trans eT) _ _ h.ins,cK.cl,cK.ss,_,h.fl.ss,sa,rfl,_,_,rfl,(e.trans eT).seq h.sq,_,hat,d,rfl,_,B0.k (k:=Sum.inl z) ((e.trans eT) _ _ h1),?_⟩
   have hno:∀{H2:Hp},A1 H H2->¬((Vapate.nameIn (s.stores.getD n []) z).isSome=true/\(el.take i).contains z=false)->Q (.bl false) H2:=by
    intro H2 e2 q
    have:(Vapate.namesTold (s.stores.getD n []) el).isSome=false:=by
     cases c:(Vapate.namesTold (s.stores.getD n []) el).isSome with
     |false=>rfl
     |true=>exact absurd ((Ha _ _).1 c i z hz) q
    have:=this▸k H2 e2
    exact this
   rw[h2.has z,<-Hv]
   cases c:(Vapate.nameIn (s.stores.getD n []) z).isSome with
   |false=>exact ifT rfl (hno (e.trans eT) (by rw[c];simp))
   |true=>
    refine ifF (by simp) ⟨_,rfl,_,(e.trans eT).seq (SqL.of hea),fun p hp=>?_⟩
    have hi:i<el.length:=(List.getElem?_eq_some_iff.1 hz).1
    have ec:BG (el.map V.int) none (some (i:Int))=(el.take i).map V.int:=by
     rw[WC (by simp;omega),List.map_take]
    rw[ec]
    have eP:=(e.trans eT).trans (A1.new (o:=.lst ((el.take i).map V.int)) hp)
    refine ⟨_,.inl (SqL.of A4),rfl,Wg _,?_⟩
    rw[X8]
    cases c2:(el.take i).contains z with
    |true=>exact ifT rfl (hno eP (by rw[c2];simp))
    |false=>
     refine ifF (by simp) ⟨eP,fun j y hj hy=>?_⟩
     by_cases q:j=i
     ·subst q
      rw[hz]at hy
      cases hy
      exact ⟨c,c2⟩
     ·exact hold j y (by omega) hy
  ·rintro σ H' ⟨e,o1,o2,rfl,hall⟩
   rw[List.length_map]at hall
   trivial
   have:(Vapate.namesTold (s.stores.getD n []) el).isSome=true:=(Ha _ _).2 fun j z hz=>hall j z (List.getElem?_eq_some_iff.1 hz).1 hz
   rw[<-this]
   exact k H' e
abbrev F1:Stmt:=top 83
theorem Hh:AC ["keeper","store","name","ends","step","refusal"] ["keeper","store","name","ends","step"] (A7 F1):=⟨rfl,rfl,rfl,by decide+kernel,rfl,by decide+kernel,by decide+kernel⟩
def Hi (K:PySem.W.Frag) (C:Addr):Sp:=fun vs H Q _=>∃(F:Addr->Prop) (r:Addr) (s:Vapate.State) (z n:Int) (ea:Addr) (e:List Int) (v:V) (o:Option VapatBase.Step),vs=[.ref r,.int z,.int n,.ref ea,v]/\Kp K C F H r s/\Ps.Db s/\H ea=some (.lst (e.map V.int))/\e.length<=5000/\Jx K H v o/\∀H',A1 H H'->Q (Yo (GC s z n e o)) H'
theorem MU (T:BJ K mg) (cK:ClK K C) (D:AA K mg "record_refusal" F1 ["keeper","store","name","ends","step"]) (Aa:OkF P w K mg base 1 "store_refusal" ["keeper","store"] (Bg K C)) (FQ:OkF P w K mg base 1 "ends_are_right" ["keeper","store","ends"] (Hg K C)):OkF P w K mg base 2 "record_refusal" ["keeper","store","name","ends","step"] (Hi K C):=by
 have AM:=cK.cl
 refine D.ok Hh (fun vs H Q E h=>?_) (fun f cdv A outer s H vs Q E hr h=>?_)
 ·obtain ⟨F,r,s,z,n,ea,e,v,o,rfl,_⟩:=h
  rfl
 ·obtain ⟨F,r,s,z,n,ea,el,v,o,rfl,hK,hS,hea,hel,hv,k⟩:=h
  have hu:=Ao hr
  refine ⟨_,(A2 (AE (i:=5) Hh.nd rfl (by nofun) (AD Aa (hr.mono (by decide)) (A0 (pv 0) (A0 (pv 1) A3))))
   (A2 (AH (AG (Di (pv 5)))
   (A5 (A6 (pv 5)))
   AB)
   (A2 (AH (PW.pt (Ce (Bd (Ej CN CN A9 (pv 2) (AI T.MOST_PATCH_NAME))) (Cs (AG (VJ hu (pv 2) (AY (pv 0) rfl))))))
   (A5 (A6 (AI T.NAME_REFUSED)))
   AB)
   (A2 (AH (AG (C5 (pv 4)))
   (A5 (A6 (AI T.NOT_WHOLE)))
   AB)
   (A2 (AH (BZ Uq (AN HB (by rfl) T.len PySem.boot_len (A0 (AY (pv 0) rfl) A3)) (AI T.MOST_RECORDED) (DI _))
   (A5 (A6 (AI T.TOO_MANY_PATCHES)))
   AB)
   (A2 (AH (Bd (Bv (AD FQ (hr.mono (by decide)) (A0 (pv 0) (A0 (pv 1) (A0 (pv 3) A3))))))
   (A5 (A6 (AI T.ENDS_REFUSED)))
   AB)
   (A5 (A6 At)))))))),?_⟩
  trivial
  have k0:=k H (A1.refl _)
  rcases hS with rfl|⟨t,hT⟩
  ·have e0:GC Vapate.start z n el o=some (-8):=if_pos rfl
   rw[e0]at k0
   exact ⟨F,r,_,z,rfl,hK,fun _=>ifT (fun q=>nomatch q) k0,fun t ht=>(nomatch ht),fun t ht=>(nomatch ht)⟩
  ·unfold GC at k0 k
   rw[if_neg (by rw[hT.tree];simp)]at k0
   refine ⟨F,r,s,z,rfl,hK,fun q=>(by rw[hT.tree]at q;cases q),fun _ _ hz=>?_,fun _ _ h0 h3=>?_⟩
   ·rw[if_pos hz]at k0
    exact ifT (fun q=>nomatch q) k0
   ·rw[if_neg (fun q=>q ⟨h0,h3⟩)]at k0
    refine ifF (fun q=>q rfl) ?_
    by_cases hn0:0<=n
    ·refine ifT hn0 ?_
     by_cases hn9:n<=99
     ·refine ifF (fun q=>q hn9) ?_
      obtain ⟨dx,fs,vt,ra,sa,ta,ds,h⟩:=id hK
      obtain ⟨kvs,q1,q2,q3⟩:=h.rcs
      replace q2:=q2.same Ch
      refine ⟨C,dx,fs,h.ins,cK.cl,cK.rc,_,h.fl.rc,ra,rfl,_,B0.k (k:=Sum.inl n) q1,?_⟩
      cases hf:find s.known n.toNat with
      |some kk=>
       rw[if_pos (.inr (by rw[hf];rfl))]at k0
       obtain ⟨u,hu1,-⟩:=(q2.at n).2 kk hn0 hf
       rw[hu1]
       exact ifT rfl k0
      |none=>
       rw[if_neg (nor (fun q=>q ⟨hn0,hn9⟩) (by rw[hf];simp))]at k0
       rw[(q2.at n).1 (.inr hf)]
       refine ifF (by simp) ?_
       cases o with
       |none=>
        rw[if_pos rfl]at k0
        exact ifT hv k0
       |some p=>
        rw[if_neg (by simp)]at k0
        have hvn:v≠.non:=W4 hv
        refine ifF hvn ⟨C,dx,fs,h.ins,cK.cl,cK.rc,_,h.fl.rc,ra,rfl,kvs,q1,?_⟩
        rw[q3]
        by_cases hk:12<=s.known.length
        ·rw[if_pos hk]at k0
         exact ifT (by omega) k0
        ·refine ifF (by omega) ?_
         obtain ⟨m,rfl⟩:=Int.eq_ofNat_of_zero_le h0
         refine ⟨F,r,s,m,ea,el,rfl,hK,by omega,hea,hel,fun H' e'=>⟨_,rfl,?_⟩⟩
         have k1:=k H' e'
         rw[if_neg (by rw[hT.tree];simp),if_neg (fun q=>q ⟨h0,h3⟩),if_neg (nor (fun q=>q ⟨hn0,hn9⟩) (by rw[hf];simp)),if_neg (by simp),if_neg hk,Int.toNat_natCast]at k1
         cases ht:Vapate.namesTold (s.stores.getD m []) el with
         |none=>
          rw[ht,if_pos rfl]at k1
          exact ifT rfl k1
         |some es=>
          rw[ht,if_neg (by simp)]at k1
          exact ifF (by simp) k1
     ·rw[if_pos (.inl fun q=>hn9 q.2)]at k0
      exact ifT hn9 k0
    ·rw[if_pos (.inl fun q=>hn0 q.1)]at k0
     exact ifF hn0 k0
end
end
section
open Vapate (Known find blockOf endsOf needsOf)
theorem Vg {a:List Nat} {e:List Int} {es:List Nat} (h:Vapate.namesTold a e=some es):e.map V.int=es.map iN:=by
 have h1:=(Ps.Gh h).1
 have h2:=(Ha a e).1 (by rw[h];rfl)
 subst h1
 rw[List.map_map]
 apply List.map_congr_left
 intro z hz
 obtain ⟨j,hj⟩:=List.getElem?_of_mem hz
 have:=(h2 j z hj).1
 rw[Hv,decide_eq_true_eq]at this
 simp only[Function.comp,iN]
 rw[Int.toNat_of_nonneg this.1]
section
variable {P:Program} {w:World} {K:PySem.W.Frag} {mg:Str->Option Value} {base:Heap} {C B:Addr}
abbrev EM:Stmt:=top 84
theorem BU:AC ["keeper","store","name","ends","numbers","step","refusal","row","block","block_names","end"] ["keeper","store","name","ends","numbers"] (A7 EM):=⟨rfl,rfl,rfl,by decide+kernel,rfl,by decide+kernel,by decide+kernel⟩
def J1 (K:PySem.W.Frag) (C:Addr):Sp:=fun vs H Q _=>∃(F:Addr->Prop) (r:Addr) (s:Vapate.State) (z n:Int) (ea na:Addr) (e l:List Int),vs=[.ref r,.int z,.int n,.ref ea,.ref na]/\Kp K C F H r s/\Ps.Db s/\H ea=some (.lst (e.map V.int))/\¬F ea/\e.length<=5000/\SqL K H na (l.map V.int)/\l.length<=5000/\Ans K C F r H (Vapate.step s (.record z n e l)).1 (Vapate.step s (.record z n e l)).2 Q
theorem Nl (T:BJ K mg) (cK:ClK K C) (D:AA K mg "record_patch" EM ["keeper","store","name","ends","numbers"]) (JQ:OkF P w K mg base 4 "read_step" ["numbers"] (LD K)) (FR:OkF P w K mg base 2 "record_refusal" ["keeper","store","name","ends","step"] (Hi K C))
  (Aq:OkM P w K mg base 12 C "row_in" ["self","store"] (Gx K C)) (RI:OkF P w K mg base 2 "fits" ["step","tree"] (T5 K)) (DB:OkF P w K mg base 3 "outcome" ["tree","row"] (Ho K)) (HS:OkF P w K mg base 7 "picked_last" ["row"] (Jh K)) (Ad:OkF P w K mg base 1 "names_of_row" ["row"] (Bt K)) (HU:OkM P w K mg base 3 C "keep" ["self","store","name","block","ends"] (T6 K C)):OkF P w K mg base 13 "record_patch" ["keeper","store","name","ends","numbers"] (J1 K C):=by
 have AM:=cK.cl
 refine D.ok BU (fun vs H Q E h=>?_) (fun f cdv A outer s H vs Q E hr h=>?_)
 ·obtain ⟨F,r,s,z,n,ea,na,e,l,rfl,_⟩:=h
  rfl
 ·obtain ⟨F,r,s,z,n,ea,na,el,l,rfl,hK,hS,hea,hfe,hel,hSq,hl,k⟩:=h
  have hu:=Ao hr
  refine ⟨_,(A2 (AE (i:=5) BU.nd rfl (by nofun) (AD JQ (hr.mono (by decide)) (A0 (pv 4) A3)))
   (A2 (AE (i:=6) BU.nd rfl (by nofun) (AD FR (hr.mono (by decide)) (A0 (pv 0) (A0 (pv 1) (A0 (pv 2) (A0 (pv 3) (A0 (pv 5) A3)))))))
   (A2 (AH (AG (Di (pv 6)))
   (A5 (A6 (Af (A0 (pv 6) A3))))
   AB)
   (A2 (AE (i:=7) BU.nd rfl (by nofun) (Bl Aq AM (hr.mono (by decide)) (pv 0) (A0 (pv 1) A3)))
   (A2 (AH (Bd (Bv (AD RI (hr.mono (by decide)) (A0 (pv 5) (A0 (AD DB (hr.mono (by decide)) (A0 (AY (pv 0) rfl) (A0 (pv 7) A3))) A3)))))
   (A5 (A6 (Af (A0 (AI T.DOES_NOT_FIT) A3))))
   AB)
   (A2 (AE (i:=8) BU.nd rfl (by nofun) (AD HS (hr.mono (by decide)) (A0 (As FA (pv 7) (Af (A0 (BL (A0 (pv 2) (A0 (pv 5) A3))) A3))) A3)))
   (A2 (AE (i:=9) BU.nd rfl (by nofun) (AD Ad (hr.mono (by decide)) (A0 (pv 8) A3)))
   (A2 (AH (Bv (AN (Rk rfl) (by rfl) T.any boot_any (A0 (Gn (own:=[("end",10)]) rfl BU.nd (B4 (pv 3)) (Ca (N:=["keeper","store","name","ends","numbers","step","refusal","row","block","block_names","end"]) (sc:=A7 EM) (by decide+kernel)) (fun _ _ _ _ _=>(AZ (i:=10) BU.nd rfl (by nofun))) (fun _ _ _ _ _=>Fc) (fun _ _ _ _ _=>(Jy (r:=rIn K false) Dj (pv 10) (pv 9) (by with_unfolding_all rfl)))) A3)))
   (A5 (A6 (Af (A0 (AI T.ENDS_ITS_OWN_NEED) A3))))
   AB)
   (A2 (BE (Bl HU AM (hr.mono (by decide)) (pv 0) (A0 (pv 1) (A0 (pv 2) (A0 (pv 8) (A0 (pv 3) A3))))))
   (A5 (A6 (Af (A0 (As Ia (AN AJ (by rfl) T.len PySem.boot_len (A0 (pv 8) A3)) A9) A3))))))))))))),?_⟩
  trivial
  refine ⟨na,l,rfl,hSq,hl,fun H1 v e1 hv=>?_⟩
  refine ⟨F,r,s,z,n,ea,el,v,_,rfl,hK.same e1,hS,e1 _ _ hea,hel,hv,fun H2 e2=>?_⟩
  have e02:=e1.trans e2
  cases hr2:GC s z n el (VapatBase.whole VapatBase.readStep l) with
  |some x=>
   rw[WE hS hr2]at k
   exact ifT (fun q=>nomatch q) ⟨AX (by omega),fun p hp=>(Ans.at k (A1.stay e02)).one (hK.same e02) hp⟩
  |none=>
   refine ifF (fun q=>q rfl) ?_
   rcases hS with rfl|⟨t,hT⟩
   ·rw[GC,if_pos (show Vapate.start.tree=none from rfl)]at hr2
    cases hr2
   obtain ⟨i,m,p,es,rfl,hi,rfl,hfm,hp,hkl,hes,hstep⟩:=W7 hT hr2
   rw[hstep]at k
   rw[hp]at hv
   have nk:=hT.nok hi
   have hrl:=hT.row_len nk
   have hR:=Ps.DO hT.srt hT.I nk.kn
   obtain ⟨u,o1,o2,o3,o4⟩:=hT.outcome nk
   obtain ⟨op,sp⟩:=Ps.Mp hp
   obtain ⟨dx,fs,vt,ra,sa,ta,ds,h⟩:=hK.same e02
   have hnl:=nk.len hT.I
   rw[Vg hes]at hea
   rw[o1]at k
   simp only[Option.bind_some]at k
   refine ⟨dx,fs,h.ins,h.fl.N.m3,F,r,s,t,i,rfl,hK.same e02,hT,hi,fun H3 y e3 hy=>?_⟩
   have h3:=h.same e3
   have e03:=e02.trans e3
   refine ⟨C,dx,fs,h3.ins,cK.cl,cK.ft,_,h3.fl.ft,vt,y,t,u,_,rfl,h3.treeV hT.tree,hy,hR.good,hT.srt,hT.tb,by omega,o2,fun H4 x e4 hx=>?_⟩
   refine ⟨v,x,p,u,rfl,An.same ((e2.trans e3).trans e4) hv,hx,sp,op,fun f c hc=>Nat.le_trans (o4.2 f c hc) (by omega),fun H5 e5=>⟨_,rfl,?_⟩⟩
   have e05:=(e03.trans e4).trans e5
   cases ha:VapatBase.applied u p with
   |none=>
    rw[ha]at k
    exact ifT rfl ⟨AX (by omega),fun q hq=>(Ans.at k (A1.stay e05)).one (hK.same e05) hq⟩
   |some w2=>
    rw[ha]at k
    simp only at k
    obtain ⟨blk,rr,b1,b2,I',b3,b4,b5⟩:=hT.I.record hT.srt nk.kn (m:=m) (by unfold Ps.KN;rw[hfm];simp) op sp o1 ha hkl es
    rw[b1]at k
    simp only[Option.map_some,Option.getD_some]at k
    have hblk:Ps.KN (s.known++[⟨m,blk,es⟩]) m:=Ps.CI.2 (.inr rfl)
    have hbn:=Ps.JY (ks:=s.known) (k:=⟨m,blk,es⟩) (by unfold Ps.KN;rw[hfm];simp)
    have hbl:=I'.row_len (Ps.Con.self I'.W hblk)
    have hbne:blk≠[]:=by
     obtain ⟨Dd,ee,q,-⟩:=I'.W.last m hblk
     simp only at hbn
     rw[hbn]at q
     rw[q]
     simp
    simp only at hbn
    rw[hbn]at hbl
    obtain ⟨ya,xs,rfl,hy1,hy2⟩:=hy
    have lx:xs.length=(Vapate.rowOf s.known (s.stores.getD i [])).length:=Paired.length hy2
    have e35:=e4.trans e5
    refine ifF (by simp) ⟨AX (by omega),fun q hq=>⟨AX (by omega),fun q1 hq1=>?_⟩⟩
    have e6:=A1.new (o:=.tup [V.int (m:Nat),v]) hq
    have e7:=A1.new (o:=.lst [V.ref q]) hq1
    refine ⟨ya,rfl,xs,e7 _ _ (e6 _ _ (e35 _ _ hy1)),_,A4,AX (by simp only[List.length_cons,List.length_nil];omega),fun q2 hq2=>?_⟩
    have e8:=A1.new (o:=.lst (xs++[V.ref q])) hq2
    have e38:=((e35.trans e6).trans e7).trans e8
    have e28:=e3.trans e38
    have e68:=(e6.trans e7).trans e8
    refine ⟨.ref q2,Vapate.rowOf s.known (s.stores.getD i []),⟨m,p⟩,rfl,⟨q2,_,rfl,A4,DM (pats.same e38 hy2) ⟨q,v,rfl,AQ.of (e7.trans e8) _ _ (SqT.of A4),An.same (e2.trans e28) hv⟩⟩,b4,by omega,fun H9 yb e9 hb=>?_⟩
    rw[<-b2]at hb
    refine ⟨yb,blk,rfl,hb,by omega,fun H10 c e10 hc=>?_⟩
    have e010:=((e03.trans e38).trans e9).trans e10
    have hea10:=e010 _ _ hea
    obtain ⟨f1,f2,f3,f4⟩:=Ps.Gh hes
    have hesl:es.length<=5000:=by omega
    refine ⟨⟨_,SqL.of hea10⟩,Lm K (as:=es) (F:=fun x n=>x=iN n) (R:=fun _ n y=>y=V.bl ((Ps.nms blk).contains n)) (keep:=fun _=>true) (Ay (SqL.of hea10)) (E9 _) (szl (by rw[List.length_map];omega)) (fun _ _ _ _ _ h=>h) ?_ ?_⟩
    ·intro x n hx _ H11 e11 Qe Qn q1 _
     subst hx
     refine ⟨by simp[BQ],_,rfl,_,rfl,c,_,rfl,.inl (SqL.of (e11 _ _ hc)),rfl,Dz _,?_⟩
     exact q1 rfl _ _ (A1.refl _) (by rw[Fe];rfl)
    ·intro D2 H11 ys e11 hD2 hp2
     rw[DN]at hp2
     have ey:ys=(es.map fun n=>(Ps.nms blk).contains n).map V.bl:=by
      rw[List.map_map]
      exact JZ hp2
     rw[ey]at hD2
     have e011:=e010.trans e11
     refine ⟨D2,rfl,_,SqL.of hD2,?_⟩
     have eA:(es.map fun n=>(Ps.nms blk).contains n).any id=es.any (Vapatc.namesOf blk).contains:=by
      rw[List.any_map]
      rfl
     rw[eA]
     cases hc2:es.any (Vapatc.namesOf blk).contains with
     |true=>
      rw[hc2,if_pos rfl]at k
      exact ifT rfl ⟨AX (by omega),fun q hq=>(Ans.at k (A1.stay e011)).one (hK.same e011) hq⟩
     |false=>
      rw[hc2,if_neg (by simp)]at k
      have hb11:=BA.same (e10.trans e11) hb
      obtain ⟨u1,u2⟩:=Ps.Er (b:=[m]) nk.up (by simp)
      obtain ⟨ba,bxs,rfl,hb1,hb2⟩:=id hb11
      have lbx:bxs.length=blk.length:=Paired.length hb2
      obtain ⟨dx',fs',vt',ra',sa',ta',ds',h'⟩:=hK.same e011
      refine ifF (by simp) ⟨dx',fs',h'.ins,h'.fl.N.m6,F,r,s,i,m,.ref ba,ea,blk,es,_,rfl,hK.same e011,hi,hT.sl,hb11,hbne,e011 _ _ hea,hfe,hfm,by omega,Ps.BS nk.up,by omega,Ps.BS u1,u2,fun H12 hK12 st12=>⟨ba,rfl,bxs,.inl (SqL.of (st12 _ _ hb1 (fun q=>q) (fun _ q=>nomatch q))),AX (by omega),fun q hq=>?_⟩⟩
      have:=(Ans.at k ((A1.stay e011).trans (st12.imp fun _ q=>q.elim))).one hK12 hq
      have hb0:0<blk.length:=List.length_pos_iff.2 hbne
      rw[lbx,show ((blk.length:Nat):Int) - 1=Vapate.int (blk.length - 1) by unfold Vapate.int;omega]
      exact this
end
end
section
open Vapate (Known find blockOf endsOf needsOf)
theorem TN {X:Cx} {K:PySem.W.Frag} {e:Expr} {f:Str} {pos:Pos} {ta:TE} (he:PE X e ta) (hb:attributeBase e f X.env (eval e X.env)=eval e X.env) (hK:X.K=K:=by rfl):PE X (.Attribute e f pos) (S1 K ta f):=by
 subst hK
 exact AY he hb
theorem Ii {t:VapatBase.Tree} {s:Vapate.State} (T:Ps.Bn t s) {z y:Int} (h:¬(0<=z/\z<3)\/¬(0<=y/\y<3)) {f:Nat->Vapate.Names->Vapate.Names->Vapate.State×Vapate.Answer}:Vapate.onStores s z y f=(s,[-2]):=by
 by_cases hz:0<=z/\z<3
 ·obtain ⟨n,rfl⟩:=Int.eq_ofNat_of_zero_le hz.1
  unfold Vapate.onStores
  rw[DG T (by omega),Ps.GA T,if_neg (h.resolve_left fun q=>q hz)]
  rfl
 ·exact EA T hz
theorem JV {t:VapatBase.Tree} {s:Vapate.State} (T:Ps.Bn t s) {n m:Nat} (hn:n<3) (hm:m<3) {f:Nat->Vapate.Names->Vapate.Names->Vapate.State×Vapate.Answer}:Vapate.onStores s (n:Int) (m:Int) f=f n (s.stores.getD n []) (s.stores.getD m []):=by
 unfold Vapate.onStores
 rw[DG T hn,Ps.GA T,if_pos (by omega)]
 simp only[Int.toNat_natCast]
 rfl
theorem Ra {α:Type} (p:α->Bool):∀l:List α,(l.filter p).length+(l.filter fun x=>!p x).length=l.length
 |[]=>rfl
 |x::l=>by
  have:=Ra p l
  cases h:p x<;>simp[List.filter_cons,h]<;>omega
theorem Hc.at {H:Hp} {tv:List (Key×V)} {tags:List (Option (List Nat))} (h:Hc H tv tags) (hl:tags.length=4) (k:Int):match (Vapate.upTo k (Vapate.TAGS - 1)).bind fun j=>(tags[j]?).bind fun x=>x with
  |none=>Ae tv (Sum.inl k)=none
  |some a=>∃u,Ae tv (Sum.inl k)=some u/\JD H u a:=by
 by_cases hk:0<=k/\k<=3
 ·have e:Vapate.upTo k (Vapate.TAGS - 1)=some k.toNat:=if_pos hk
  rw[e]
  have:=h.2.2 k.toNat
  unfold kN at this
  rw[Int.toNat_of_nonneg hk.1]at this
  exact this
 ·have e:Vapate.upTo k (Vapate.TAGS - 1)=none:=if_neg hk
  rw[e]
  show Ae tv (Sum.inl k)=none
  cases q:Ae tv (Sum.inl k) with
  |none=>rfl
  |some u=>
   obtain ⟨n,hn,h4⟩:=h.2.1 _ (MF q)
   have:k=(n:Int):=Sum.inl.inj hn
   omega
theorem Hc.put {H:Hp} {tv:List (Key×V)} {tags:List (Option (List Nat))} (h:Hc H tv tags) (hl:tags.length=4) {j:Nat} (hj:j<4) {u:V} {a:List Nat} (hu:JD H u a):Hc H (BB tv (kN j) u) (tags.set j (some a)):=by
 refine ⟨?_,?_,fun n=>?_⟩
 ·by_cases c:kN j∈tv.map (·.1)
  ·rw[Fd c]
   exact h.1
  ·rw[Eh c,List.nodup_append]
   exact ⟨h.1,by simp,fun x hx y hy=>by rw[List.mem_singleton]at hy;subst hy;intro e;subst e;exact c hx⟩
 ·intro k hk
  by_cases c:kN j∈tv.map (·.1)
  ·rw[Fd c]at hk
   exact h.2.1 k hk
  ·rw[Eh c]at hk
   rcases List.mem_append.1 hk with q|q
   ·exact h.2.1 k q
   ·exact ⟨j,List.mem_singleton.1 q,hj⟩
 ·rw[FZ]
  by_cases c:n=j
  ·subst c
   rw[List.getElem?_set_self (by omega),if_pos rfl]
   exact ⟨u,rfl,hu⟩
  ·rw[List.getElem?_set_ne (Ne.symm c),if_neg fun q=>c (OC q)]
   exact h.2.2 n
theorem Hc.len {H:Hp} {tv:List (Key×V)} {tags:List (Option (List Nat))} (h:Hc H tv tags):tv.length<=4:=by
 obtain ⟨ns,hn⟩:=NM fun k hk=>(by obtain ⟨n,e,-⟩:=h.2.1 k hk;exact ⟨n,e⟩)
 have h1:(ns.map Int.toNat).Nodup:=by
  have h0:=h.1
  rw[hn,List.nodup_iff_pairwise_ne,List.pairwise_map]at h0
  rw[List.nodup_iff_pairwise_ne,List.pairwise_map]
  refine List.Pairwise.imp_of_mem ?_ h0
  intro x y hx hy hxy e
  obtain ⟨a,ea,-⟩:=h.2.1 (Sum.inl x) (by rw[hn];exact List.mem_map_of_mem hx)
  obtain ⟨b,eb,-⟩:=h.2.1 (Sum.inl y) (by rw[hn];exact List.mem_map_of_mem hy)
  have ea':x=(a:Int):=Sum.inl.inj ea
  have eb':y=(b:Int):=Sum.inl.inj eb
  apply hxy
  rw[show x=y by omega]
 have h2:=Ps.K2 h1 (m:=[0,1,2,3]) fun e he=>by
  obtain ⟨x,hx,rfl⟩:=List.mem_map.1 he
  obtain ⟨a,ea,h4⟩:=h.2.1 (Sum.inl x) (by rw[hn];exact List.mem_map_of_mem hx)
  have ea':x=(a:Int):=Sum.inl.inj ea
  subst ea'
  rw[Int.toNat_natCast]
  simp
  omega
 have:=congrArg List.length hn
 simp at this h2
 omega
theorem Aw {K:PySem.W.Frag} {C:Addr} {F:Addr->Prop} {r:Addr} {H:Hp} {s:Vapate.State} {z:Int} {Q:VK} (k:Ans K C F r H s [z] Q) (hK:Kp K C F H r s):1<=sizeLine/\∀p,H p=none->Q (.ref p) (upd H p (.lst [.int z])):=⟨AX (by omega),fun p hp=>k.one hK hp⟩
section
variable {P:Program} {w:World} {K:PySem.W.Frag} {mg:Str->Option Value} {base:Heap} {C B:Addr}
abbrev F2:Stmt:=top 94
theorem Hj:AC ["keeper","store","other","refusal"] ["keeper","store","other"] (A7 F2):=⟨rfl,rfl,rfl,by decide+kernel,rfl,by decide+kernel,by decide+kernel⟩
def DR (K:PySem.W.Frag) (C:Addr):Sp:=fun vs H Q _=>∃(F:Addr->Prop) (r:Addr) (s:Vapate.State) (z y:Int),vs=[.ref r,.int z,.int y]/\Kp K C F H r s/\(s.tree=none->Q (.int (-8)) H)/\(∀t,s.tree=some t->¬(0<=z/\z<3)\/¬(0<=y/\y<3)->Q (.int (-2)) H)/\(∀t,s.tree=some t->0<=z/\z<3->0<=y/\y<3->Q .non H)
theorem MV (T:BJ K mg) (cK:ClK K C) (D:AA K mg "stores_refusal" F2 ["keeper","store","other"]) (Aa:OkF P w K mg base 1 "store_refusal" ["keeper","store"] (Bg K C)):OkF P w K mg base 2 "stores_refusal" ["keeper","store","other"] (DR K C):=by
 have AM:=cK.cl
 refine D.ok Hj (fun vs H Q E h=>?_) (fun f cdv A outer s H vs Q E hr h=>?_)
 ·obtain ⟨F,r,s,z,y,rfl,_⟩:=h
  rfl
 ·obtain ⟨F,r,s,z,y,rfl,hK,k1,k2,k3⟩:=h
  have hu:=Ao hr
  refine ⟨_,(A2 (AE (i:=3) Hj.nd rfl (by nofun) (AD Aa (hr.mono (by decide)) (A0 (pv 0) (A0 (pv 1) A3))))
   (A2 (AH (AG (Di (pv 3)))
   (A5 (A6 (pv 3)))
   AB)
   (A5 (A6 (AD Aa (hr.mono (by decide)) (A0 (pv 0) (A0 (pv 2) A3))))))),?_⟩
  trivial
  refine ⟨F,r,s,z,rfl,hK,fun q=>ifT (fun z=>nomatch z) (k1 q),fun t ht q=>ifT (fun z=>nomatch z) (k2 t ht (.inl q)),fun t ht h0 h3=>ifF (fun z=>z rfl) ⟨F,r,s,y,rfl,hK,k1,fun t ht q=>k2 t ht (.inr q),fun t ht g0 g3=>k3 t ht ⟨h0,h3⟩ ⟨g0,g3⟩⟩⟩
def F8 (K:PySem.W.Frag) (C:Addr) (c:Int->Int->Vapate.Call):Sp:=fun vs H Q _=>∃(F:Addr->Prop) (r:Addr) (s:Vapate.State) (z y:Int),vs=[.ref r,.int z,.int y]/\Kp K C F H r s/\Ps.Db s/\Ans K C F r H (Vapate.step s (c z y)).1 (Vapate.step s (c z y)).2 Q
abbrev GP:Stmt:=top 95
theorem Jm:AC ["keeper","store","source","name","refusal"] ["keeper","store","source","name"] (A7 GP):=⟨rfl,rfl,rfl,by decide+kernel,rfl,by decide+kernel,by decide+kernel⟩
def Jn (K:PySem.W.Frag) (C:Addr):Sp:=fun vs H Q _=>∃(F:Addr->Prop) (r:Addr) (s:Vapate.State) (z y n:Int),vs=[.ref r,.int z,.int y,.int n]/\Kp K C F H r s/\Ps.Db s/\Ans K C F r H (Vapate.step s (.bring z y n)).1 (Vapate.step s (.bring z y n)).2 Q
theorem Oq (T:BJ K mg) (cK:ClK K C) (D:AA K mg "bring_patch" GP ["keeper","store","source","name"]) (B5:OkF P w K mg base 2 "stores_refusal" ["keeper","store","other"] (DR K C)) (Ad:OkF P w K mg base 1 "names_of_row" ["row"] (Bt K)) (Ar:OkM P w K mg base 1 C "take_in" ["self","store","names"] (Ft K C)):OkF P w K mg base 3 "bring_patch" ["keeper","store","source","name"] (Jn K C):=by
 have AM:=cK.cl
 refine D.ok Jm (fun vs H Q E h=>?_) (fun f cdv A outer s H vs Q E hr h=>?_)
 ·obtain ⟨F,r,s,z,y,n,rfl,_⟩:=h
  rfl
 ·obtain ⟨F,r,s,z,y,n,rfl,hK,hS,k⟩:=h
  have hu:=Ao hr
  refine ⟨_,(A2 (AE (i:=4) Jm.nd rfl (by nofun) (AD B5 (hr.mono (by decide)) (A0 (pv 0) (A0 (pv 1) (A0 (pv 2) A3)))))
   (A2 (AH (AG (Di (pv 4)))
   (A5 (A6 (Af (A0 (pv 4) A3))))
   AB)
   (A2 (AH (AG (Ci hu (pv 3) (AF (r:=B6 K) Ak (AY (pv 0) rfl) (pv 2) (fun _ _=>rfl))))
   (A5 (A6 (Af (A0 (AI T.NAME_REFUSED) A3))))
   AB)
   (A5 (A6 (Af (A0 (Bl Ar AM (hr.mono (by decide)) (pv 0) (A0 (pv 1) (A0 (AD Ad (hr.mono (by decide)) (A0 (AY (C9 hu (AY (pv 0) rfl) (pv 3) (fun _ _=>rfl)) rfl) A3)) A3))) A3))))))),?_⟩
  trivial
  rcases hS with rfl|⟨t,hT⟩
  ·exact ⟨F,r,_,z,y,rfl,hK,fun _=>ifT (fun q=>nomatch q) (Aw k hK),fun t ht=>(nomatch ht),fun t ht=>(nomatch ht)⟩
  ·refine ⟨F,r,s,z,y,rfl,hK,fun q=>(by rw[hT.tree]at q;cases q),fun _ _ q=>ifT (fun q=>nomatch q) ?_,fun _ _ hz hy=>ifF (fun q=>q rfl) ?_⟩
   ·have hst:Vapate.step s (.bring z y n)=(s,[-2]):=by simp only[Vapate.step];exact Ii hT q
    rw[hst]at k
    exact Aw k hK
   ·obtain ⟨i,rfl⟩:=Int.eq_ofNat_of_zero_le hz.1
    obtain ⟨j,rfl⟩:=Int.eq_ofNat_of_zero_le hy.1
    have hi:i<3:=by omega
    have hj:j<3:=by omega
    have hst:Vapate.step s (.bring i j n)=(match Vapate.nameIn (s.stores.getD j []) n with
     |none=>Vapate.refused s (-3)
     |some m=>Vapate.withStore s i (Vapate.brought s.known (s.stores.getD i []) m) [Vapate.int ((Vapate.brought s.known (s.stores.getD i []) m).length - (s.stores.getD i []).length)]):=by simp only[Vapate.step];rw[JV hT hi hj];try rfl
    rw[hst]at k
    obtain ⟨dx,fs,vt,ra,sa,ta,ds,h⟩:=id hK
    obtain ⟨d,kv,hd,h1,h2,hat⟩:=h.dget hj
    refine ⟨C,dx,fs,h.ins,cK.cl,cK.ss,_,h.fl.ss,sa,rfl,_,h.sq,_,hat,d,rfl,_,B0.k (k:=Sum.inl n) h1,?_⟩
    rw[h2.has n,<-Hv]
    have na:=hT.nok hi
    have nb:=hT.nok hj
    cases hn:Vapate.nameIn (s.stores.getD j []) n with
    |none=>
     rw[hn]at k
     exact ifT rfl (Aw k hK)
    |some m=>
     rw[hn]at k
     obtain ⟨hm,h0,hmn⟩:=Ps.Gv hn
     obtain rfl:n=(m:Int):=by omega
     obtain ⟨kvs,q1,q2,q3⟩:=h.rcs
     obtain ⟨u,kk,hf,hv,hrec,hb,-⟩:=(q2.same Ch).some (nb.kn m hm)
     obtain ⟨xa,B',dx',fs',vb,ve,rfl,r1,r2,r3,r4,r5,r6,r7,-⟩:=hrec
     have hbl:=hT.I.row_len (Ps.Con.self hT.I.W (nb.kn m hm))
     have hbn:=hT.I.W.nodup m (nb.kn m hm)
     have nc:=na.brought hT.I (b:=[]) (nb.kn m hm)
     obtain ⟨u1,u2⟩:=Ps.Er (b:=needsOf s.known m) na.up hbn
     have hnd:needsOf s.known m=Ps.nms kk.block:=by unfold needsOf;rw[hb];rfl
     have hle:=Ps.K2 (Ps.BS na.up) (m:=Vapate.brought s.known (s.stores.getD i []) m) fun x hx=>(u2 x).2 (.inl hx)
     rw[hb]at hbl
     have hlen:=na.len hT.I
     refine ifF (by simp) ⟨dx,fs,h.ins,h.fl.N.m4,C,dx,fs,h.ins,cK.cl,cK.rc,_,h.fl.rc,ra,rfl,_,B0.k' q1 hv,xa,rfl,B',dx',fs',r1,r2,r3,vb,r5,vb,kk.block,rfl,r7,by omega,fun H1 a e1 ha=>?_⟩
     rw[<-hnd]at ha
     refine ⟨F,r,s,i,a,needsOf s.known m,Vapate.brought s.known (s.stores.getD i []) m,rfl,hK.same e1,hi,hT.sl,ha,Ps.BS na.up,by omega,by rw[hnd,List.length_map];omega,Ps.BS u1,u2,fun d kv kv' hd hK'=>?_⟩
     rw[show ((Vapate.brought s.known (s.stores.getD i []) m).length:Int) - ((s.stores.getD i []).length:Int)=Vapate.int ((Vapate.brought s.known (s.stores.getD i []) m).length - (s.stores.getD i []).length) by unfold Vapate.int;omega]
     exact Aw (Ans.at k ((A1.stay e1).trans (Bm.put hd))) hK'
abbrev Fx:Stmt:=top 96
theorem J2:AC ["keeper","store","source","refusal"] ["keeper","store","source"] (A7 Fx):=⟨rfl,rfl,rfl,by decide+kernel,rfl,by decide+kernel,by decide+kernel⟩
theorem Nm (T:BJ K mg) (cK:ClK K C) (D:AA K mg "pull_patches" Fx ["keeper","store","source"]) (B5:OkF P w K mg base 2 "stores_refusal" ["keeper","store","other"] (DR K C)) (AK:OkM P w K mg base 1 C "names_in" ["self","store"] (Bp K C)) (Ar:OkM P w K mg base 1 C "take_in" ["self","store","names"] (Ft K C)):OkF P w K mg base 3 "pull_patches" ["keeper","store","source"] (F8 K C .pull):=by
 have AM:=cK.cl
 refine D.ok J2 (fun vs H Q E h=>?_) (fun f cdv A outer s H vs Q E hr h=>?_)
 ·obtain ⟨F,r,s,z,y,rfl,_⟩:=h
  rfl
 ·obtain ⟨F,r,s,z,y,rfl,hK,hS,k⟩:=h
  have hu:=Ao hr
  refine ⟨_,(A2 (AE (i:=3) J2.nd rfl (by nofun) (AD B5 (hr.mono (by decide)) (A0 (pv 0) (A0 (pv 1) (A0 (pv 2) A3)))))
   (A2 (AH (AG (Di (pv 3)))
   (A5 (A6 (Af (A0 (pv 3) A3))))
   AB)
   (A5 (A6 (Af (A0 (Bl Ar AM (hr.mono (by decide)) (pv 0) (A0 (pv 1) (A0 (Bl AK AM (hr.mono (by decide)) (pv 0) (A0 (pv 2) A3)) A3))) A3)))))),?_⟩
  trivial
  rcases hS with rfl|⟨t,hT⟩
  ·exact ⟨F,r,_,z,y,rfl,hK,fun _=>ifT (fun q=>nomatch q) (Aw k hK),fun t ht=>(nomatch ht),fun t ht=>(nomatch ht)⟩
  ·refine ⟨F,r,s,z,y,rfl,hK,fun q=>(by rw[hT.tree]at q;cases q),fun _ _ q=>ifT (fun q=>nomatch q) ?_,fun _ _ hz hy=>ifF (fun q=>q rfl) ?_⟩
   ·have hst:Vapate.step s (.pull z y)=(s,[-2]):=by simp only[Vapate.step];exact Ii hT q
    rw[hst]at k
    exact Aw k hK
   ·obtain ⟨i,rfl⟩:=Int.eq_ofNat_of_zero_le hz.1
    obtain ⟨j,rfl⟩:=Int.eq_ofNat_of_zero_le hy.1
    have hi:i<3:=by omega
    have hj:j<3:=by omega
    have hst:Vapate.step s (.pull i j)=Vapate.withStore s i (Vapate.union (s.stores.getD i []) (s.stores.getD j [])) [Vapate.int ((Vapate.union (s.stores.getD i []) (s.stores.getD j [])).length - (s.stores.getD i []).length)]:=by simp only[Vapate.step];rw[JV hT hi hj];try rfl
    rw[hst]at k
    obtain ⟨dx,fs,vt,ra,sa,ta,ds,h⟩:=id hK
    have na:=hT.nok hi
    have nb:=hT.nok hj
    have la:=na.len hT.I
    have lb:=nb.len hT.I
    obtain ⟨u1,u2⟩:=Ps.Er (b:=s.stores.getD j []) na.up (Ps.BS nb.up)
    have hle:=Ps.K2 (Ps.BS na.up) (m:=Vapate.union (s.stores.getD i []) (s.stores.getD j [])) fun x hx=>(u2 x).2 (.inl hx)
    refine ⟨dx,fs,h.ins,h.fl.N.m4,dx,fs,h.ins,h.fl.N.m2,F,r,s,j,rfl,hK,hj,nb.up,by omega,fun p hp=>?_⟩
    have e1:=A1.new (o:=.lst ((s.stores.getD j []).map iN)) hp
    refine ⟨F,r,s,i,p,s.stores.getD j [],_,rfl,hK.same e1,hi,hT.sl,A4,Ps.BS na.up,by omega,by omega,Ps.BS u1,u2,fun d kv kv' hd hK'=>?_⟩
    rw[show ((Vapate.union (s.stores.getD i []) (s.stores.getD j [])).length:Int) - ((s.stores.getD i []).length:Int)=Vapate.int ((Vapate.union (s.stores.getD i []) (s.stores.getD j [])).length - (s.stores.getD i []).length) by unfold Vapate.int;omega]
    exact Aw (Ans.at k ((A1.stay e1).trans (Bm.put hd))) hK'
abbrev DC:Stmt:=top 97
theorem Ea:AC ["keeper","store","name","other"] ["keeper","store","name"] (A7 DC):=⟨rfl,rfl,rfl,by decide+kernel,rfl,by decide+kernel,by decide+kernel⟩
def Gy (K:PySem.W.Frag) (C:Addr):Sp:=fun vs H Q _=>∃(F:Addr->Prop) (r:Addr) (s:Vapate.State) (t:VapatBase.Tree) (n m:Nat),vs=[.ref r,iN n,iN m]/\Kp K C F H r s/\Ps.Bn t s/\n<3/\∀H' a,A1 H H'->H' a=some (.lst (((s.stores.getD n []).filter fun x=>(needsOf s.known x).contains m).map iN))->Q (.ref a) H'
theorem LP (T:BJ K mg) (cK:ClK K C) (D:AA K mg "names_that_need" DC ["keeper","store","name"]) (AK:OkM P w K mg base 1 C "names_in" ["self","store"] (Bp K C)) (Ad:OkF P w K mg base 1 "names_of_row" ["row"] (Bt K)):OkF P w K mg base 2 "names_that_need" ["keeper","store","name"] (Gy K C):=by
 have AM:=cK.cl
 refine D.ok Ea (fun vs H Q E h=>?_) (fun f cdv A outer s H vs Q E hr h=>?_)
 ·obtain ⟨F,r,s,t,n,m,rfl,_⟩:=h
  rfl
 ·obtain ⟨F,r,s,t,n,m,rfl,hK,hT,hn,k⟩:=h
  have hu:=Ao hr
  refine ⟨_,(A5 (A6 (Gn (own:=[("other",3)]) rfl Ea.nd (B4 (Bl AK AM (hr.mono (by decide)) (pv 0) (A0 (pv 1) A3))) (Ca (N:=["keeper","store","name","other"]) (sc:=A7 DC) (by decide+kernel)) (fun _ _ _ _ _=>(AZ (i:=3) Ea.nd rfl (by nofun))) (fun _ _ _ _ _=>(ML (BZ (r:=rIn K false) Dj (pv 2) (AD Ad (hr.mono (by decide)) (A0 (TN (K:=K) (C9 (by exact hu) (TN (K:=K) (pv 0) rfl) (pv 3) (fun _ _=>rfl)) rfl) A3)) (by with_unfolding_all rfl)))) (fun _ _ _ _ _=>(pv 3))))),?_⟩
  trivial
  obtain ⟨dx,fs,vt,ra,sa,ta,ds,h⟩:=id hK
  have na:=hT.nok hn
  have la:=na.len hT.I
  refine ⟨dx,fs,h.ins,h.fl.N.m2,F,r,s,n,rfl,hK,hn,na.up,by omega,fun p hp=>⟨p,rfl,⟨_,SqL.of A4⟩,?_⟩⟩
  have e1:=A1.new (o:=.lst ((s.stores.getD n []).map iN)) hp
  refine Lm K (as:=s.stores.getD n []) (F:=fun x m=>x=iN m) (R:=fun _ m y=>y=iN m) (keep:=fun x=>(needsOf s.known x).contains m) (Ay (SqL.of A4)) (E9 _) (szl (by rw[List.length_map];omega)) (fun _ _ _ _ _ h=>h) ?_ ?_
  ·intro x m2 hx hmem H3 e3 Qe Qn q1 q2
   subst hx
   have h3:=(h.same e1).same e3
   obtain ⟨kvs,g1,g2,g3⟩:=h3.rcs
   have hkn:=na.kn m2 hmem
   obtain ⟨u,kk,hf,hv,hrec,hb,-⟩:=(g2.same Ch).some hkn
   obtain ⟨xa,B',dx',fs',vb,ve,rfl,r1,r2,r3,r4,r5,r6,r7,-⟩:=hrec
   have hbl:=hT.I.row_len (Ps.Con.self hT.I.W hkn)
   rw[hb]at hbl
   have hnd:needsOf s.known m2=Ps.nms kk.block:=by unfold needsOf;rw[hb];rfl
   refine ⟨by simp[BQ],_,rfl,_,rfl,r,C,dx,fs,_,rfl,h3.ins,cK.cl,cK.rc,h3.fl.rc,_,rfl,ra,_,rfl,B0.k' g1 hv,xa,B',dx',fs',vb,rfl,r1,r2,r3,r5,vb,kk.block,rfl,r7,by omega,fun H4 c e4 hc=>?_⟩
   refine ⟨c,_,rfl,.inl (SqL.of hc),rfl,Dz _,_,rfl,?_⟩
   rw[Fe,<-hnd]
   cases hc2:(needsOf s.known m2).contains m with
   |true=>exact ifT rfl ⟨_,rfl,q1 hc2 _ _ e4 rfl⟩
   |false=>exact ifF (by simp) (q2 hc2 _ e4)
  ·intro D3 H3 ys e3 hD3 hp3
   have ey:=Df hp3
   subst ey
   exact k _ _ (e1.trans e3) hD3
abbrev Fy:Stmt:=top 98
theorem Fz:AC ["keeper","store","name","refusal","lost"] ["keeper","store","name"] (A7 Fy):=⟨rfl,rfl,rfl,by decide+kernel,rfl,by decide+kernel,by decide+kernel⟩
theorem Nn (T:BJ K mg) (cK:ClK K C) (D:AA K mg "forget_patch" Fy ["keeper","store","name"]) (Aa:OkF P w K mg base 1 "store_refusal" ["keeper","store"] (Bg K C)) (F4:OkF P w K mg base 2 "names_that_need" ["keeper","store","name"] (Gy K C)) (Bj:OkM P w K mg base 1 C "leave_out" ["self","store","names"] (IR K C)):OkF P w K mg base 3 "forget_patch" ["keeper","store","name"] (F8 K C .forget):=by
 have AM:=cK.cl
 refine D.ok Fz (fun vs H Q E h=>?_) (fun f cdv A outer s H vs Q E hr h=>?_)
 ·obtain ⟨F,r,s,z,y,rfl,_⟩:=h
  rfl
 ·obtain ⟨F,r,s,z,y,rfl,hK,hS,k⟩:=h
  have hu:=Ao hr
  refine ⟨_,(A2 (AE (i:=3) Fz.nd rfl (by nofun) (AD Aa (hr.mono (by decide)) (A0 (pv 0) (A0 (pv 1) A3))))
   (A2 (AH (AG (Di (pv 3)))
   (A5 (A6 (Af (A0 (pv 3) A3))))
   AB)
   (A2 (AH (AG (Ci hu (pv 2) (AF (r:=B6 K) Ak (AY (pv 0) rfl) (pv 1) (fun _ _=>rfl))))
   (A5 (A6 (Af (A0 (AI T.NAME_REFUSED) A3))))
   AB)
   (A2 (AE (i:=4) Fz.nd rfl (by nofun) (AD F4 (hr.mono (by decide)) (A0 (pv 0) (A0 (pv 1) (A0 (pv 2) A3)))))
   (A2 (BE (Bl Bj AM (hr.mono (by decide)) (pv 0) (A0 (pv 1) (A0 (pv 4) A3))))
   (A5 (A6 (Af (A0 (AN AJ (by rfl) T.len PySem.boot_len (A0 (pv 4) A3)) A3))))))))),?_⟩
  trivial
  rcases hS with rfl|⟨t,hT⟩
  ·exact ⟨F,r,_,z,rfl,hK,fun _=>ifT (fun q=>nomatch q) (Aw k hK),fun t ht=>(nomatch ht),fun t ht=>(nomatch ht)⟩
  ·refine ⟨F,r,s,z,rfl,hK,fun q=>(by rw[hT.tree]at q;cases q),fun _ _ q=>ifT (fun q=>nomatch q) ?_,fun _ _ hz0 hz3=>ifF (fun q=>q rfl) ?_⟩
   ·have hst:Vapate.step s (.forget z y)=(s,[-2]):=by simp only[Vapate.step];exact EA hT q
    rw[hst]at k
    exact Aw k hK
   ·obtain ⟨i,rfl⟩:=Int.eq_ofNat_of_zero_le hz0
    have hi:i<3:=by omega
    have hst:Vapate.step s (.forget i y)=(match Vapate.nameIn (s.stores.getD i []) y with
     |none=>Vapate.refused s (-3)
     |some m=>Vapate.withStore s i (Vapate.forgotten s.known (s.stores.getD i []) m) [Vapate.int ((s.stores.getD i []).length - (Vapate.forgotten s.known (s.stores.getD i []) m).length)]):=by simp only[Vapate.step];rw[DG hT hi];try rfl
    rw[hst]at k
    obtain ⟨dx,fs,vt,ra,sa,ta,ds,h⟩:=id hK
    obtain ⟨d,kv,hd,h1,h2,hat⟩:=h.dget hi
    refine ⟨C,dx,fs,h.ins,cK.cl,cK.ss,_,h.fl.ss,sa,rfl,_,h.sq,_,hat,d,rfl,_,B0.k (k:=Sum.inl y) h1,?_⟩
    rw[h2.has y,<-Hv]
    have na:=hT.nok hi
    cases hn:Vapate.nameIn (s.stores.getD i []) y with
    |none=>
     rw[hn]at k
     exact ifT rfl (Aw k hK)
    |some m=>
     rw[hn]at k
     obtain ⟨hm,h0,hmn⟩:=Ps.Gv hn
     obtain rfl:y=(m:Int):=by omega
     refine ifF (by simp) ⟨F,r,s,t,i,m,rfl,hK,hT,hi,fun H1 a e1 ha=>?_⟩
     obtain ⟨dx',fs',vt',ra',sa',ta',ds',h'⟩:=hK.same e1
     have hnu:=Ps.BS na.up
     have hlp:=Ra (fun x=>(needsOf s.known x).contains m) (s.stores.getD i [])
     refine ⟨dx',fs',h'.ins,h'.fl.N.m5,F,r,s,i,a,_,Vapate.forgotten s.known (s.stores.getD i []) m,rfl,hK.same e1,hi,hT.sl,ha,hnu,List.Nodup.sublist List.filter_sublist hnu,fun x hx=>(List.mem_filter.1 hx).1,List.Nodup.sublist List.filter_sublist hnu,fun x=>?_,fun d kv kv' hd hK'=>⟨a,rfl,_,.inl (SqL.of (Bm.put (S:=fun _=>False) hd _ _ ha (fun q=>q) (fun _ q=>nomatch q))),?_⟩⟩
     ·unfold Vapate.forgotten
      rw[List.mem_filter,List.mem_filter]
      constructor
      ·rintro ⟨a1,a2⟩
       exact ⟨a1,fun q=>by rw[q.2]at a2;cases a2⟩
      ·rintro ⟨a1,a2⟩
       refine ⟨a1,?_⟩
       cases c:(needsOf s.known x).contains m with
       |false=>rfl
       |true=>exact absurd ⟨a1,c⟩ a2
     ·rw[List.length_map]
      have hv:(((s.stores.getD i []).filter fun x=>(needsOf s.known x).contains m).length:Int)=Vapate.int ((s.stores.getD i []).length - (Vapate.forgotten s.known (s.stores.getD i []) m).length):=by
       unfold Vapate.int Vapate.forgotten
       omega
      rw[hv]
      exact Aw (Ans.at k ((A1.stay e1).trans (Bm.put hd))) hK'
end
end
section
open Vapate (Known find blockOf endsOf needsOf)
def G5:VapatBase.Step->PyData
 |.hunk f a o n=>.tuple [.int 0,pyN f,pyN a,.tuple (o.map pyN),.tuple (n.map pyN)]
 |.swap f x y=>.tuple [.int 1,pyN f,pyN x,pyN y]
 |.add f=>.tuple [.int 2,pyN f]
 |.remove f=>.tuple [.int 3,pyN f]
 |.move f g=>.tuple [.int 4,pyN f,pyN g]
def FG (p:Vapatc.Patch):PyData:=.tuple [pyN p.name,G5 p.step]
theorem X9 {K:PySem.W.Frag} {H:Hp} {v:V} {p:VapatBase.Step} (h:An K H v p):Dp K H v (G5 p):=by
 cases p with
 |hunk f a o n=>
  obtain ⟨p,vo,vn,rfl,h,⟨ao,rfl,ho⟩,⟨an,rfl,hn⟩⟩:=h
  exact .tup h (.cons (.int _) (.cons (.int _) (.cons (.int _) (.cons (.tup ho (Gd _)) (.cons (.tup hn (Gd _)) .nil)))))
 |swap f x y=>
  obtain ⟨p,rfl,h⟩:=h
  exact .tup h (.cons (.int _) (.cons (.int _) (.cons (.int _) (.cons (.int _) .nil))))
 |add f=>
  obtain ⟨p,rfl,h⟩:=h
  exact .tup h (.cons (.int _) (.cons (.int _) .nil))
 |remove f=>
  obtain ⟨p,rfl,h⟩:=h
  exact .tup h (.cons (.int _) (.cons (.int _) .nil))
 |move f g=>
  obtain ⟨p,rfl,h⟩:=h
  exact .tup h (.cons (.int _) (.cons (.int _) (.cons (.int _) .nil)))
theorem Tc {K:PySem.W.Frag} {H:Hp}:∀{xs:List V} {r:Vapatc.Row},Paired (Cv K H) xs r->J8 K H xs (r.map FG)
 |_,_,.nil=>.nil
 |_,_,.cons h t=>by
  obtain ⟨a,u,rfl,h1,h2⟩:=h
  exact .cons (.tup h1 (.cons (.int _) (.cons (X9 h2) .nil))) (Tc t)
theorem YF (a b:Nat):((a:Int)==(b:Int))=decide (a=b):=by
 by_cases h:a=b
 ·subst h;simp
 ·rw[decide_eq_false h]
  simp only[beq_eq_false_iff_ne,ne_eq]
  omega
theorem WH (p q:VapatBase.Step):PyData.eqv (G5 p) (G5 q)=decide (p=q):=by
 cases p<;>cases q<;>simp[G5,PyData.eqv,PyData.eqvAll,pyN,YF]
 rw[Ie,Ie]
theorem S5:∀r s:Vapatc.Row,PyData.eqvAll (r.map FG) (s.map FG)=decide (r=s)
 |[],[]=>by simp[PyData.eqvAll]
 |[],_::_=>by simp[PyData.eqvAll]
 |_::_,[]=>by simp[PyData.eqvAll]
 |⟨n,p⟩::r,⟨m,q⟩::s=>by
  simp only[List.map_cons,PyData.eqvAll,FG,PyData.eqv,pyN]
  rw[S5 r s,WH,YF]
  by_cases h1:n=m
  ·by_cases h2:p=q
   ·by_cases h3:r=s
    ·simp[h1,h2,h3]
    ·simp[h1,h2,h3]
   ·simp[h1,h2]
  ·simp[h1]
theorem Wa (p:VapatBase.Step):PyData.canLay0 (G5 p)=true:=by
 cases p<;>simp[G5,PyData.canLay0,PyData.canLayAll0,pyN]
 exact ⟨Io _,Io _⟩
theorem Uu (p:VapatBase.Step):PyData.depth (G5 p)<=4:=by
 cases p<;>simp[G5,PyData.depth,PyData.depthAll,pyN]
 exact Nat.max_le.2 ⟨Nat.le_trans (G7 _) (by omega),Nat.le_trans (G7 _) (by omega)⟩
theorem SF:∀r:Vapatc.Row,PyData.canLayAll0 (r.map FG)=true
 |[]=>rfl
 |p::r=>by
  simp only[List.map_cons,PyData.canLayAll0,FG,PyData.canLay0,pyN,Wa,SF r,Bool.and_self]
theorem Ob:∀r:Vapatc.Row,PyData.depthAll (r.map FG)<=6
 |[]=>by simp[PyData.depthAll]
 |p::r=>by
  have:=Ob r
  have:=Uu p.step
  simp only[List.map_cons,PyData.depthAll,FG,PyData.depth,pyN]
  omega
theorem Ht (r:Vapatc.Row):SeqAt.shaped (.list (r.map FG))=true:=by
 unfold SeqAt.shaped
 rw[Bool.and_eq_true]
 refine ⟨SF r,decide_eq_true ?_⟩
 have:=Ob r
 simp only[PyData.depth]
 omega
theorem Mo (l:List Nat):SeqAt.shaped (.list (l.map pyN))=true:=by
 unfold SeqAt.shaped
 rw[Bool.and_eq_true]
 refine ⟨Io l,decide_eq_true ?_⟩
 have:=G7 l
 simp only[PyData.depth]
 omega
theorem Oc {K:PySem.W.Frag} {H:Hp} {v:V} {r:Vapatc.Row} (h:BA K H v r):Dp K H v (.list (r.map FG)):=by
 obtain ⟨a,xs,rfl,h1,h2⟩:=h
 exact .lst (SqL.of h1) (Tc h2)
section
variable {P:Program} {w:World} {K:PySem.W.Frag} {mg:Str->Option Value} {base:Heap} {C B:Addr}
abbrev KC:Stmt:=top 99
theorem No:AC ["keeper","store","tag","refusal"] ["keeper","store","tag"] (A7 KC):=⟨rfl,rfl,rfl,by decide+kernel,rfl,by decide+kernel,by decide+kernel⟩
theorem Tl (T:BJ K mg) (cK:ClK K C) (D:AA K mg "set_tag" KC ["keeper","store","tag"]) (Aa:OkF P w K mg base 1 "store_refusal" ["keeper","store"] (Bg K C)) (AK:OkM P w K mg base 1 C "names_in" ["self","store"] (Bp K C)):OkF P w K mg base 2 "set_tag" ["keeper","store","tag"] (F8 K C .tag):=by
 have AM:=cK.cl
 refine D.ok No (fun vs H Q E h=>?_) (fun f cdv A outer s H vs Q E hr h=>?_)
 ·obtain ⟨F,r,s,z,y,rfl,_⟩:=h
  rfl
 ·obtain ⟨F,r,s,z,y,rfl,hK,hS,k⟩:=h
  have hu:=Ao hr
  refine ⟨_,(A2 (AE (i:=3) No.nd rfl (by nofun) (AD Aa (hr.mono (by decide)) (A0 (pv 0) (A0 (pv 1) A3))))
   (A2 (AH (AG (Di (pv 3)))
   (A5 (A6 (Af (A0 (pv 3) A3))))
   AB)
   (A2 (AH (Bd (Ej CN CN A9 (pv 2) (AI T.MOST_TAG)))
   (A5 (A6 (Af (A0 (AI T.TAG_REFUSED) A3))))
   AB)
   (A2 (DZ hu (AY (pv 0) rfl) (pv 2) (Bl AK AM (hr.mono (by decide)) (pv 0) (A0 (pv 1) A3)) rfl)
   (A5 (A6 (Af (A0 (AN AJ (by rfl) T.len PySem.boot_len (A0 (C9 hu (AY (pv 0) rfl) (pv 2) (fun _ _=>rfl)) A3)) A3)))))))),?_⟩
  trivial
  rcases hS with rfl|⟨t,hT⟩
  ·exact ⟨F,r,_,z,rfl,hK,fun _=>ifT (fun q=>nomatch q) (Aw k hK),fun t ht=>(nomatch ht),fun t ht=>(nomatch ht)⟩
  ·refine ⟨F,r,s,z,rfl,hK,fun q=>(by rw[hT.tree]at q;cases q),fun _ _ q=>ifT (fun q=>nomatch q) ?_,fun _ _ hz0 hz3=>ifF (fun q=>q rfl) ?_⟩
   ·have hst:Vapate.step s (.tag z y)=(s,[-2]):=by simp only[Vapate.step];exact EA hT q
    rw[hst]at k
    exact Aw k hK
   ·obtain ⟨i,rfl⟩:=Int.eq_ofNat_of_zero_le hz0
    have hi:i<3:=by omega
    have hst:Vapate.step s (.tag i y)=(match Vapate.upTo y (Vapate.TAGS - 1) with
     |none=>Vapate.refused s (-5)
     |some j=>({s with tags:=s.tags.set j (some (s.stores.getD i []))},[Vapate.int (s.stores.getD i []).length])):=by simp only[Vapate.step];rw[DG hT hi];try rfl
    rw[hst]at k
    obtain ⟨dx,fs,vt,ra,sa,ta,ds,h⟩:=id hK
    have na:=hT.nok hi
    have la:=na.len hT.I
    by_cases hy:0<=y/\y<=3
    ·obtain ⟨j,rfl⟩:=Int.eq_ofNat_of_zero_le hy.1
     have hj:Vapate.upTo (j:Int) (Vapate.TAGS - 1)=some j:=if_pos hy
     rw[hj]at k
     refine ifT hy.1 (ifF (fun q=>q hy.2) ?_)
     refine ⟨dx,fs,h.ins,h.fl.N.m2,F,r,s,i,rfl,hK,hi,na.up,by omega,fun p hp=>?_⟩
     have e1:=A1.new (o:=.lst ((s.stores.getD i []).map iN)) hp
     have h1:=h.same e1
     obtain ⟨tv,g1,g2⟩:=h1.tgs
     have np:=h.new hp
     have hn:JD (CH (Sx F r ra ta ds) (upd H p (.lst ((s.stores.getD i []).map iN)))) (.ref p) (s.stores.getD i []):=⟨p,rfl,by rw[Ep np];exact A4⟩
     have w:=g2.put hT.tl (j:=j) (by omega) hn
     have h2:=h1.setT w
     have gl:=g2.len
     have hpt:p≠ta:=fun q=>np (.inr (.inr (.inr (.inl q))))
     refine ⟨C,dx,fs,h1.ins,cK.cl,cK.tg,_,h1.fl.tg,ta,rfl,_,FW.k (k:=kN j) g1 (szl (by omega)),C,dx,fs,h2.ins,cK.cl,cK.tg,_,h2.fl.tg,ta,rfl,.ref p,?_,p,rfl,_,.inl (SqL.of (by rw[A8 hpt];exact A4)),?_⟩
     ·have:=B0.k (k:=kN j) (A4 (H:=upd H p (.lst ((s.stores.getD i []).map iN))) (a:=ta) (o:=.dK (BB tv (kN j) (.ref p))))
      rw[FZ,if_pos rfl]at this
      exact this
     ·rw[List.length_map]
      exact Aw (Ans.at k ((A1.stay e1).trans (Bm.put g1))) ⟨_,_,_,_,_,_,_,h2⟩
    ·have hj:Vapate.upTo y (Vapate.TAGS - 1)=none:=if_neg hy
     rw[hj]at k
     by_cases h0:0<=y
     ·exact ifT h0 (ifT (fun q=>hy ⟨h0,q⟩) (Aw k hK))
     ·exact ifF h0 (Aw k hK)
abbrev GQ:Stmt:=top 100
theorem Jo:AC ["keeper","tag","row"] ["keeper","tag"] (A7 GQ):=⟨rfl,rfl,rfl,by decide+kernel,rfl,by decide+kernel,by decide+kernel⟩
def Jp (K:PySem.W.Frag) (C:Addr):Sp:=fun vs H Q _=>∃(F:Addr->Prop) (r:Addr) (s:Vapate.State) (z:Int),vs=[.ref r,.int z]/\Kp K C F H r s/\Ps.Db s/\Ans K C F r H (Vapate.step s (.at_ z)).1 (Vapate.step s (.at_ z)).2 Q
theorem Os (T:BJ K mg) (cK:ClK K C) (D:AA K mg "tell_tagged" GQ ["keeper","tag"]) (E6:OkF P w K mg base 11 "store_row" ["recorded","names"] (IQ K)) (DY:OkF P w K mg base 2 "write_tree" ["tree"] (HM K)) (DB:OkF P w K mg base 3 "outcome" ["tree","row"] (Ho K)):OkF P w K mg base 12 "tell_tagged" ["keeper","tag"] (Jp K C):=by
 have AM:=cK.cl
 refine D.ok Jo (fun vs H Q E h=>?_) (fun f cdv A outer s H vs Q E hr h=>?_)
 ·obtain ⟨F,r,s,z,rfl,_⟩:=h
  rfl
 ·obtain ⟨F,r,s,z,rfl,hK,hS,k⟩:=h
  have hu:=Ao hr
  refine ⟨_,(A2 (AH (AG (C5 (AY (pv 0) rfl)))
   (A5 (A6 (Af (A0 (AI T.NO_TREE) A3))))
   AB)
   (A2 (AH (AG (Ci hu (pv 1) (AY (pv 0) rfl)))
   (A5 (A6 (Af (A0 (AI T.TAG_REFUSED) A3))))
   AB)
   (A2 (AE (i:=2) Jo.nd rfl (by nofun) (AD E6 (hr.mono (by decide)) (A0 (AY (pv 0) rfl) (A0 (C9 hu (AY (pv 0) rfl) (pv 1) (fun _ _=>rfl)) A3))))
   (A5 (A6 (AD DY (hr.mono (by decide)) (A0 (AD DB (hr.mono (by decide)) (A0 (AY (pv 0) rfl) (A0 (pv 2) A3))) A3))))))),?_⟩
  trivial
  obtain ⟨dx,fs,vt,ra,sa,ta,ds,h⟩:=id hK
  have ht:=h.tree
  refine ⟨C,dx,fs,h.ins,cK.cl,cK.ft,_,h.fl.ft,?_⟩
  rcases hS with rfl|⟨t,hT⟩
  ·exact ifT ht (Aw k hK)
  ·have htv:=h.treeV hT.tree
   obtain ⟨ta0,tkv,rfl,-⟩:=id htv
   refine ifF (fun q=>nomatch q) ?_
   obtain ⟨tv,g1,g2⟩:=h.tgs
   have g3:=(g2.same Ch).at hT.tl z
   refine ⟨C,dx,fs,h.ins,cK.cl,cK.tg,_,h.fl.tg,ta,rfl,_,B0.k (k:=Sum.inl z) g1,?_⟩
   simp only[Vapate.step,Vapate.onTree,hT.tree]at k
   cases e:(Vapate.upTo z (Vapate.TAGS - 1)).bind fun j=>(s.tags[j]?).bind fun x=>x with
   |none=>
    rw[e]at g3 k
    rw[g3]
    exact ifT rfl (Aw k hK)
   |some a=>
    rw[e]at g3 k
    obtain ⟨u,hv,p,rfl,hp⟩:=g3
    rw[hv]
    have na:=hT.tg a (Ps.OI e)
    have hl:=hT.row_len na
    obtain ⟨u2,o1,o2,o3,o4⟩:=hT.outcome na
    simp only at k
    refine ifF (fun q=>nomatch q) ⟨C,dx,fs,h.ins,cK.cl,cK.rc,_,h.fl.rc,C,dx,fs,h.ins,cK.cl,cK.tg,_,h.fl.tg,ta,rfl,.ref p,by have:=B0.k (k:=Sum.inl z) g1;rw[hv]at this;exact this,?_⟩
    refine ⟨.ref ra,p,s.known,a,t,rfl,h.stp hT na hp,fun H1 y e1 hy=>?_⟩
    have h1:=h.same e1
    refine ⟨C,dx,fs,h1.ins,cK.cl,cK.ft,_,h1.fl.ft,_,y,t,u2,_,rfl,Pz.treeV.same e1 htv,hy,(Ps.DO hT.srt hT.I na.kn).good,hT.srt,hT.tb,by omega,o2,fun H2 x e2 hx=>⟨x,u2,rfl,hx,o3,o4.mono (by omega) (by omega),fun H3 a3 e3 n3 h3=>Ans.ro k hK ((e1.trans e2).trans e3) (none_of (e1.trans e2) n3) ?_⟩⟩
    rw[o1]
    exact h3
abbrev KD:Stmt:=top 101
theorem Np:AC ["keeper","store","tag","refusal"] ["keeper","store","tag"] (A7 KD):=⟨rfl,rfl,rfl,by decide+kernel,rfl,by decide+kernel,by decide+kernel⟩
theorem Tn (T:BJ K mg) (cK:ClK K C) (D:AA K mg "go_back" KD ["keeper","store","tag"]) (Aa:OkF P w K mg base 1 "store_refusal" ["keeper","store"] (Bg K C)) (AK:OkM P w K mg base 1 C "names_in" ["self","store"] (Bp K C)) (Bj:OkM P w K mg base 1 C "leave_out" ["self","store","names"] (IR K C)) (Ar:OkM P w K mg base 1 C "take_in" ["self","store","names"] (Ft K C)):OkF P w K mg base 2 "go_back" ["keeper","store","tag"] (F8 K C .back):=by
 have AM:=cK.cl
 refine D.ok Np (fun vs H Q E h=>?_) (fun f cdv A outer s H vs Q E hr h=>?_)
 ·obtain ⟨F,r,s,z,y,rfl,_⟩:=h
  rfl
 ·obtain ⟨F,r,s,z,y,rfl,hK,hS,k⟩:=h
  have hu:=Ao hr
  refine ⟨_,(A2 (AE (i:=3) Np.nd rfl (by nofun) (AD Aa (hr.mono (by decide)) (A0 (pv 0) (A0 (pv 1) A3))))
   (A2 (AH (AG (Di (pv 3)))
   (A5 (A6 (Af (A0 (pv 3) A3))))
   AB)
   (A2 (AH (AG (Ci hu (pv 2) (AY (pv 0) rfl)))
   (A5 (A6 (Af (A0 (AI T.TAG_REFUSED) A3))))
   AB)
   (A2 (BE (Bl Bj AM (hr.mono (by decide)) (pv 0) (A0 (pv 1) (A0 (Bl AK AM (hr.mono (by decide)) (pv 0) (A0 (pv 1) A3)) A3))))
   (A5 (A6 (Af (A0 (Bl Ar AM (hr.mono (by decide)) (pv 0) (A0 (pv 1) (A0 (C9 hu (AY (pv 0) rfl) (pv 2) (fun _ _=>rfl)) A3))) A3)))))))),?_⟩
  trivial
  rcases hS with rfl|⟨t,hT⟩
  ·exact ⟨F,r,_,z,rfl,hK,fun _=>ifT (fun q=>nomatch q) (Aw k hK),fun t ht=>(nomatch ht),fun t ht=>(nomatch ht)⟩
  ·refine ⟨F,r,s,z,rfl,hK,fun q=>(by rw[hT.tree]at q;cases q),fun _ _ q=>ifT (fun q=>nomatch q) ?_,fun _ _ hz0 hz3=>ifF (fun q=>q rfl) ?_⟩
   ·have hst:Vapate.step s (.back z y)=(s,[-2]):=by simp only[Vapate.step];exact EA hT q
    rw[hst]at k
    exact Aw k hK
   ·obtain ⟨i,rfl⟩:=Int.eq_ofNat_of_zero_le hz0
    have hi:i<3:=by omega
    have hst:Vapate.step s (.back i y)=(match (Vapate.upTo y (Vapate.TAGS - 1)).bind fun j=>(s.tags[j]?).bind fun x=>x with
     |none=>Vapate.refused s (-5)
     |some a=>Vapate.withStore s i a [Vapate.int a.length]):=by simp only[Vapate.step];rw[DG hT hi];try rfl
    rw[hst]at k
    obtain ⟨dx,fs,vt,ra,sa,ta,ds,h⟩:=id hK
    have na:=hT.nok hi
    have la:=na.len hT.I
    obtain ⟨tv,g1,g2⟩:=h.tgs
    have g3:=(g2.same Ch).at hT.tl y
    refine ⟨C,dx,fs,h.ins,cK.cl,cK.tg,_,h.fl.tg,ta,rfl,_,B0.k (k:=Sum.inl y) g1,?_⟩
    cases e:(Vapate.upTo y (Vapate.TAGS - 1)).bind fun j=>(s.tags[j]?).bind fun x=>x with
    |none=>
     rw[e]at g3 k
     rw[g3]
     exact ifT rfl (Aw k hK)
    |some a=>
     rw[e]at g3 k
     have nt:=hT.tg a (Ps.OI e)
     have lt:=nt.len hT.I
     have hnu:=Ps.BS na.up
     obtain ⟨u,hv,p,rfl,hp⟩:=g3
     rw[hv]
     refine ifF (fun q=>nomatch q) ⟨dx,fs,h.ins,h.fl.N.m5,dx,fs,h.ins,h.fl.N.m2,F,r,s,i,rfl,hK,hi,na.up,by omega,fun q hq=>?_⟩
     have e1:=A1.new (o:=.lst ((s.stores.getD i []).map iN)) hq
     refine ⟨F,r,s,i,q,s.stores.getD i [],[],rfl,hK.same e1,hi,hT.sl,A4,hnu,hnu,fun x hx=>hx,by simp,fun x=>⟨fun q=>(by simp at q),fun q=>absurd q.1 q.2⟩,fun d kv kv' hd hK'=>?_⟩
     obtain ⟨dx',fs',vt',ra',sa',ta',ds',h'⟩:=id hK'
     obtain ⟨tv',g1',g2'⟩:=h'.tgs
     have g3':=(g2'.same Ch).at hT.tl y
     simp only at g3'
     rw[e]at g3'
     obtain ⟨u',hv',p',rfl,hp'⟩:=g3'
     have hil:i<s.stores.length:=by rw[hT.sl];exact hi
     have hz:(s.stores.set i []).getD i []=([]:List Nat):=by simp[List.getD_eq_getElem?_getD,hil]
     refine ⟨dx',fs',h'.ins,h'.fl.N.m4,C,dx',fs',h'.ins,cK.cl,cK.tg,_,h'.fl.tg,ta',rfl,.ref p',by have:=B0.k (k:=Sum.inl y) g1';rw[hv']at this;exact this,?_⟩
     refine ⟨F,r,_,i,p',a,a,rfl,hK',hi,by simp[hT.sl],hp',?_,?_,by omega,Ps.BS nt.up,fun x=>?_,fun d2 kv2 kv2' hd2 hK2=>?_⟩
     ·simp only
      rw[hz]
      simp
     ·simp only
      rw[hz]
      simp
     ·simp only
      rw[hz]
      simp
     ·simp only[List.set_set]at hK2
      simp only
      rw[hz]
      have hv2:((a.length:Nat):Int) - ((([]:List Nat).length:Nat):Int)=Vapate.int a.length:=by simp[Vapate.int]
      rw[hv2]
      exact Aw (Ans.at k (((A1.stay e1).trans (Bm.put hd)).trans (Bm.put hd2))) hK2
abbrev HV:Stmt:=top 102
theorem FF:AC ["keeper","store","other","refusal","same_patches","same_row"] ["keeper","store","other"] (A7 HV):=⟨rfl,rfl,rfl,by decide+kernel,rfl,by decide+kernel,by decide+kernel⟩
theorem QO (T:BJ K mg) (cK:ClK K C) (D:AA K mg "tell_alike" HV ["keeper","store","other"]) (B5:OkF P w K mg base 2 "stores_refusal" ["keeper","store","other"] (DR K C)) (AK:OkM P w K mg base 1 C "names_in" ["self","store"] (Bp K C)) (Aq:OkM P w K mg base 12 C "row_in" ["self","store"] (Gx K C)):OkF P w K mg base 13 "tell_alike" ["keeper","store","other"] (F8 K C .alike):=by
 have AM:=cK.cl
 refine D.ok FF (fun vs H Q E h=>?_) (fun f cdv A outer s H vs Q E hr h=>?_)
 ·obtain ⟨F,r,s,z,y,rfl,_⟩:=h
  rfl
 ·obtain ⟨F,r,s,z,y,rfl,hK,hS,k⟩:=h
  have hu:=Ao hr
  have hu64:=hr.units
  refine ⟨_,(A2 (AE (i:=3) FF.nd rfl (by nofun) (AD B5 (hr.mono (by decide)) (A0 (pv 0) (A0 (pv 1) (A0 (pv 2) A3)))))
   (A2 (AH (AG (Di (pv 3)))
   (A5 (A6 (Af (A0 (pv 3) A3))))
   AB)
   (A2 (AE (i:=4) FF.nd rfl (by nofun) (NQ (BZ (Rx hu64) (Bl AK AM (hr.mono (by decide)) (pv 0) (A0 (pv 1) A3)) (Bl AK AM (hr.mono (by decide)) (pv 0) (A0 (pv 2) A3)) (DI _)) A9 A9))
   (A2 (AE (i:=5) FF.nd rfl (by nofun) (NQ (BZ (Rx hu64) (Bl Aq AM (hr.mono (by decide)) (pv 0) (A0 (pv 1) A3)) (Bl Aq AM (hr.mono (by decide)) (pv 0) (A0 (pv 2) A3)) (DI _)) A9 A9))
   (A5 (A6 (Af (A0 (pv 4) (A0 (pv 5) A3))))))))),?_⟩
  trivial
  rcases hS with rfl|⟨t,hT⟩
  ·exact ⟨F,r,_,z,y,rfl,hK,fun _=>ifT (fun q=>nomatch q) (Aw k hK),fun t ht=>(nomatch ht),fun t ht=>(nomatch ht)⟩
  ·refine ⟨F,r,s,z,y,rfl,hK,fun q=>(by rw[hT.tree]at q;cases q),fun _ _ q=>ifT (fun q=>nomatch q) ?_,fun _ _ hz hy=>ifF (fun q=>q rfl) ?_⟩
   ·have hst:Vapate.step s (.alike z y)=(s,[-2]):=by simp only[Vapate.step];exact Ii hT q
    rw[hst]at k
    exact Aw k hK
   ·obtain ⟨i,rfl⟩:=Int.eq_ofNat_of_zero_le hz.1
    obtain ⟨j,rfl⟩:=Int.eq_ofNat_of_zero_le hy.1
    have hi:i<3:=by omega
    have hj:j<3:=by omega
    have hst:Vapate.step s (.alike i j)=(s,[Vapate.bool (s.stores.getD i []==s.stores.getD j []),Vapate.bool (Vapate.rowOf s.known (s.stores.getD i [])==Vapate.rowOf s.known (s.stores.getD j []))]):=by simp only[Vapate.step];rw[JV hT hi hj];try rfl
    rw[hst]at k
    obtain ⟨dx,fs,vt,ra,sa,ta,ds,h⟩:=id hK
    have na:=hT.nok hi
    have nb:=hT.nok hj
    have la:=na.len hT.I
    have lb:=nb.len hT.I
    refine ⟨dx,fs,h.ins,h.fl.N.m2,F,r,s,i,rfl,hK,hi,na.up,by omega,fun p hp=>?_⟩
    have e1:=A1.new (o:=.lst ((s.stores.getD i []).map iN)) hp
    have h1:=h.same e1
    refine ⟨dx,fs,h1.ins,h1.fl.N.m2,F,r,s,j,rfl,hK.same e1,hj,nb.up,by omega,fun q hq=>?_⟩
    have e2:=A1.new (o:=.lst ((s.stores.getD j []).map iN)) hq
    have h2:=h1.same e2
    have e12:=e1.trans e2
    refine ⟨_,.lst (SqL.of (e2 _ _ A4)) (Gd _),_,.lst (SqL.of A4) (Gd _),Mo _,Mo _,?_⟩
    generalize (upd (upd H p (HO.lst ((s.stores.getD i []).map iN))) q (HO.lst ((s.stores.getD j []).map iN)))=H2 at*
    have hen:PyData.eqv (.list ((s.stores.getD i []).map pyN)) (.list ((s.stores.getD j []).map pyN))=(s.stores.getD i []==s.stores.getD j []):=by
     simp only[PyData.eqv]
     rw[Ie,Bool.eq_iff_iff,decide_eq_true_eq,beq_iff_eq]
    rw[hen]
    have her:PyData.eqv (.list ((Vapate.rowOf s.known (s.stores.getD i [])).map FG)) (.list ((Vapate.rowOf s.known (s.stores.getD j [])).map FG))=(Vapate.rowOf s.known (s.stores.getD i [])==Vapate.rowOf s.known (s.stores.getD j [])):=by
     simp only[PyData.eqv]
     rw[S5,Bool.eq_iff_iff,decide_eq_true_eq,beq_iff_eq]
    simp only at k
    cases hA:(s.stores.getD i []==s.stores.getD j []) with
    |true=>
     rw[hA]at k
     refine ifT rfl ⟨dx,fs,h2.ins,h2.fl.N.m3,F,r,s,t,i,rfl,hK.same e12,hT,hi,fun H3 x e3 hx=>?_⟩
     have h3:=h2.same e3
     refine ⟨dx,fs,h3.ins,h3.fl.N.m3,F,r,s,t,j,rfl,hK.same (e12.trans e3),hT,hj,fun H4 x' e4 hx'=>?_⟩
     refine ⟨_,Oc (BA.same e4 hx),_,Oc hx',Ht _,Ht _,?_⟩
     rw[her]
     cases hR:(Vapate.rowOf s.known (s.stores.getD i [])==Vapate.rowOf s.known (s.stores.getD j [])) with
     |true=>
      rw[hR]at k
      exact ifT rfl ⟨AX (by omega),fun c hc=>Ans.ro k hK (((e12.trans e3).trans e4).trans (A1.new hc)) (none_of ((e12.trans e3).trans e4) hc) A4⟩
     |false=>
      rw[hR]at k
      exact ifF (by simp) ⟨AX (by omega),fun c hc=>Ans.ro k hK (((e12.trans e3).trans e4).trans (A1.new hc)) (none_of ((e12.trans e3).trans e4) hc) A4⟩
    |false=>
     rw[hA]at k
     refine ifF (by simp) ⟨dx,fs,h2.ins,h2.fl.N.m3,F,r,s,t,i,rfl,hK.same e12,hT,hi,fun H3 x e3 hx=>?_⟩
     have h3:=h2.same e3
     refine ⟨dx,fs,h3.ins,h3.fl.N.m3,F,r,s,t,j,rfl,hK.same (e12.trans e3),hT,hj,fun H4 x' e4 hx'=>?_⟩
     refine ⟨_,Oc (BA.same e4 hx),_,Oc hx',Ht _,Ht _,?_⟩
     rw[her]
     cases hR:(Vapate.rowOf s.known (s.stores.getD i [])==Vapate.rowOf s.known (s.stores.getD j [])) with
     |true=>
      rw[hR]at k
      exact ifT rfl ⟨AX (by omega),fun c hc=>Ans.ro k hK (((e12.trans e3).trans e4).trans (A1.new hc)) (none_of ((e12.trans e3).trans e4) hc) A4⟩
     |false=>
      rw[hR]at k
      exact ifF (by simp) ⟨AX (by omega),fun c hc=>Ans.ro k hK (((e12.trans e3).trans e4).trans (A1.new hc)) (none_of ((e12.trans e3).trans e4) hc) A4⟩
end
end
section
open Vapate (Known find blockOf endsOf needsOf)
def S9 (K:PySem.W.Frag) (C Cr:Addr) (F:Addr->Prop) (r rd a:Addr) (ns:List Int) (H:Hp) (s:Vapate.State) (ans t:List Int) (Q:VK):Prop:=
 ∀H' c (j:Nat),Kp K C F H' r s->Bm (fun b=>b=r\/b=rd) H H'->RdV Cr H' rd a (j:Int)->ns.drop j=t->¬F c->H' c=some (.lst (ans.map V.int))->Q (.ref c) H'
structure Bo (K:PySem.W.Frag) (C Cr:Addr) (F:Addr->Prop) (r rd a:Addr) (ns:List Int) (j:Nat) (H:Hp) (s:Vapate.State):Prop where
 kp:Kp K C F H r s
 rv:RdV Cr H rd a (j:Int)
 sq:SqL K H a (ns.map V.int)
 fr:F rd
 len:ns.length<=5000
section
variable {K:PySem.W.Frag} {C Cr:Addr} {F:Addr->Prop} {r rd a:Addr} {ns:List Int} {j:Nat} {H H':Hp} {s s':Vapate.State} {ans t:List Int} {Q:VK}
theorem Kp.nf (h:Kp K C F H r s):¬F r:=by
 obtain ⟨dx,fs,vt,ra,sa,ta,ds,h⟩:=h
 exact h.nf
theorem Bo.ne (h:Bo K C Cr F r rd a ns j H s):rd≠r:=fun e=>h.kp.nf (e▸h.fr)
theorem Bo.but (h:Bo K C Cr F r rd a ns j H s) {i:Nat} (b:But (·=rd) H H') (rv:RdV Cr H' rd a (i:Int)):Bo K C Cr F r rd a ns i H' s:=by
 obtain ⟨dx,fs,hH,-⟩:=h.rv
 refine ⟨h.kp.but (fun c o hc n=>b c o hc fun e=>n (e▸h.fr)) fun c f=>?_,rv,Vl b hH h.sq,h.fr,h.len⟩
 by_cases e:c=rd
 ·subst e
  obtain ⟨dx',fs',hH',-⟩:=rv
  exact .inr ⟨_,_,_,hH'⟩
 ·rcases h.kp.fok c f with ⟨l,q⟩|⟨C',d',f',q⟩
  ·exact .inl ⟨l,b _ _ q e⟩
  ·exact .inr ⟨C',d',f',b _ _ q e⟩
theorem S9.to (k:S9 K C Cr F r rd a ns H s' ans t Q) (st:Bm (fun b=>b=r\/b=rd) H H') (rv:RdV Cr H' rd a (j:Int)) (hd:ns.drop j=t) (hne:rd≠r):Ans K C F r H' s' ans Q:=fun H2 c hK st2 nf hc=>by
 refine k H2 c j hK (st.trans (st2.imp fun b q=>.inl q)) ?_ hd nf hc
 obtain ⟨dx,fs,h1,h2⟩:=rv
 exact ⟨dx,fs,st2 _ _ h1 hne (fun _ q=>nomatch q),h2⟩
theorem VD {ns:List Int} {j:Nat} {z:Int} {t:List Int} (hd:ns.drop j=z::t):ns[j]?=some z/\ns.drop (j+1)=t:=by
 constructor
 ·have:=congrArg List.head? hd
  rw[List.head?_drop]at this
  simpa using this
 ·have:=congrArg List.tail hd
  rw[List.tail_drop]at this
  simpa using this
theorem Bo.take (h:Bo K C Cr F r rd a ns j H s) {z:Int} (hd:ns.drop j=z::t) {Q1:VK} {E:XK} (k:∀H',Bo K C Cr F r rd a ns (j+1) H' s->But (·=rd) H H'->ns.drop (j+1)=t->Q1 (.int z) H'):
  ∃dx fs,H rd=some (.ins Cr dx fs)/\fs.lookup ("take":Str)=none/\Cm K Cr [.ref rd] H Q1 E:=by
 obtain ⟨dx,fs,hH,hF⟩:=id h.rv
 obtain ⟨h1,h2⟩:=VD hd
 exact ⟨dx,fs,hH,hF.m2,rd,a,j,ns,z,rfl,h.rv,h.sq,h1,fun H' b rv=>k H' (h.but b rv) b h2⟩
theorem Bo.take_list (h:Bo K C Cr F r rd a ns j H s) {x:List Int} (hd:PyFlat.row (ns.drop j)=some (x,t)) {Q1:VK} {E:XK} (k:∀H' q i,Bo K C Cr F r rd a ns i H' s->But (·=rd) H H'->ns.drop i=t->H' q=some (.lst (x.map V.int))->H q=none->Q1 (.ref q) H'):
  ∃dx fs,H rd=some (.ins Cr dx fs)/\fs.lookup ("take_list":Str)=none/\D1 K Cr [.ref rd] H Q1 E:=by
 obtain ⟨dx,fs,hH,hF⟩:=id h.rv
 exact ⟨dx,fs,hH,hF.m3,rd,a,j,ns,x,t,rfl,h.rv,h.sq,h.len,hd,fun H' q i b rv e1 e2 e3=>k H' q i (h.but b rv) b e1 e2 e3⟩
theorem Rh {l x t:List Int} (h:PyFlat.row l=some (x,t)):x.length<=l.length/\t.length<=l.length:=by
 unfold PyFlat.row at h
 cases l with
 |nil=>cases h
 |cons n l=>
  simp only at h
  split at h
  ·cases h
   simp
   omega
  ·cases h
theorem But.stay2 (b:But (·=rd) H H'):Bm (fun b=>b=r\/b=rd) H H':=(But.stay b).imp fun _ q=>.inr q
end
section
variable {P:Program} {w:World} {K:PySem.W.Frag} {mg:Str->Option Value} {base:Heap} {C Cr:Addr}
abbrev FS:Stmt:=top 121
theorem Cq:AC ["keeper","reader","store","name","ends","step"] ["keeper","reader"] (A7 FS):=⟨rfl,rfl,rfl,by decide+kernel,rfl,by decide+kernel,by decide+kernel⟩
def IT (K:PySem.W.Frag) (C Cr:Addr):Sp:=fun vs H Q _=>∃(F:Addr->Prop) (r rd a:Addr) (ns:List Int) (j:Nat) (s:Vapate.State) (z n:Int) (l e x t1 t:List Int),vs=[.ref r,.ref rd]/\Bo K C Cr F r rd a ns j H s/\Ps.Db s/\ns.drop j=z::n::l/\PyFlat.row l=some (e,t1)/\PyFlat.row t1=some (x,t)/\S9 K C Cr F r rd a ns H (Vapate.step s (.record z n e x)).1 (Vapate.step s (.record z n e x)).2 t Q
theorem N1 (T:BJ K mg) (cK:ClK K C) (cR:ClR K Cr) (D:AA K mg "answer_record" FS ["keeper","reader"]) (Ah:OkM P w K mg base 1 Cr "take" ["self"] (Cm K Cr)) (BF:OkM P w K mg base 2 Cr "take_list" ["self"] (D1 K Cr)) (GR:OkF P w K mg base 13 "record_patch" ["keeper","store","name","ends","numbers"] (J1 K C)):OkF P w K mg base 14 "answer_record" ["keeper","reader"] (IT K C Cr):=by
 have AM:=cK.cl
 have Au:=cR.cl
 refine D.ok Cq (fun vs H Q E h=>?_) (fun f cdv A outer s H vs Q E hr h=>?_)
 ·obtain ⟨F,r,rd,a,ns,j,s,z,n,l,e,x,t1,t,rfl,_⟩:=h
  rfl
 ·obtain ⟨F,r,rd,a,ns,j,s,z,n,l,e,x,t1,t,rfl,hB,hS,hd,hr1,hr2,k⟩:=h
  have hu:=Ao hr
  refine ⟨_,(A2 (AE (i:=2) Cq.nd rfl (by nofun) (Cc Ah Au (hr.mono (by decide)) (pv 1)))
   (A2 (AE (i:=3) Cq.nd rfl (by nofun) (Cc Ah Au (hr.mono (by decide)) (pv 1)))
   (A2 (AE (i:=4) Cq.nd rfl (by nofun) (Cc BF Au (hr.mono (by decide)) (pv 1)))
   (A2 (AE (i:=5) Cq.nd rfl (by nofun) (Cc BF Au (hr.mono (by decide)) (pv 1)))
   (A5 (A6 (AD GR (hr.mono (by decide)) (A0 (pv 0) (A0 (pv 2) (A0 (pv 3) (A0 (pv 4) (A0 (pv 5) A3)))))))))))),?_⟩
  trivial
  refine hB.take hd fun H1 hB1 b1 hd1=>hB1.take hd1 fun H2 hB2 b2 hd2=>?_
  have hdl:(ns.drop (j+1+1)).length<=ns.length:=by rw[List.length_drop];omega
  have hln:=hB.len
  have hle1:=Rh hr1
  have hle2:=Rh hr2
  rw[hd2]at hdl
  rw[<-hd2]at hr1
  refine hB2.take_list hr1 fun H3 q1 i3 hB3 b3 hd3 hq1 hn1=>?_
  rw[<-hd3]at hr2
  refine hB3.take_list hr2 fun H4 q2 i4 hB4 b4 hd4 hq2 hn2=>?_
  have hq1d:q1≠rd:=fun q=>by
   obtain ⟨_,_,z,-⟩:=hB2.rv
   rw[<-q,hn1]at z
   cases z
  refine ⟨F,r,s,z,n,q1,q2,e,x,rfl,hB4.kp,hS,b4 _ _ hq1 hq1d,hB2.kp.fok.some hn1,by omega,SqL.of hq2,by omega,?_⟩
  exact k.to ((((But.stay2 b1).trans (But.stay2 b2)).trans (But.stay2 b3)).trans (But.stay2 b4)) hB4.rv hd4 hB.ne
abbrev Eb:Stmt:=top 122
theorem Gz:AC ["keeper","call","store","refusal"] ["keeper","call","store"] (A7 Eb):=⟨rfl,rfl,rfl,by decide+kernel,rfl,by decide+kernel,by decide+kernel⟩
def HA (K:PySem.W.Frag) (C:Addr):Sp:=fun vs H Q _=>∃(F:Addr->Prop) (r:Addr) (s:Vapate.State) (p z:Int) (c:Vapate.Call),vs=[.ref r,.int p,.int z]/\Kp K C F H r s/\Ps.Db s/\((p=2/\c=.known z)\/(p=3/\c=.row z)\/(p=4/\c=.outcome z)\/(p=5/\c=.conflicts z)\/(p=6/\c=.idle z))/\Ans K C F r H (Vapate.step s c).1 (Vapate.step s c).2 Q
theorem LQ (T:BJ K mg) (cK:ClK K C) (D:AA K mg "answer_of_store" Eb ["keeper","call","store"]) (Aa:OkF P w K mg base 1 "store_refusal" ["keeper","store"] (Bg K C))
  (IU:OkF P w K mg base 2 "tell_known" ["keeper","store"] (E7 K C fun _ _ a=>Vapate.listed a)) (KE:OkF P w K mg base 13 "tell_row" ["keeper","store"] (E7 K C fun _ ks a=>Vapatc.rowTold (Vapate.rowOf ks a))) (GS:OkF P w K mg base 13 "tell_outcome" ["keeper","store"] (E7 K C fun t ks a=>Vapate.treeTold (Vapate.outcome t ks a)))
  (FT:OkF P w K mg base 10 "tell_conflicts" ["keeper","store"] (E7 K C fun _ ks a=>Vapate.int (Vapate.conflicts ks a).length::(Vapate.conflicts ks a).flatMap fun x=>[Vapate.int x.1,Vapate.int x.2])) (JR:OkF P w K mg base 11 "tell_idle" ["keeper","store"] (E7 K C fun _ ks a=>Vapate.int (a.filter fun n=>Vapate.whyIdle ks a n !=0).length::(a.filter fun n=>Vapate.whyIdle ks a n !=0).flatMap fun n=>[Vapate.int n,Vapate.int (Vapate.whyIdle ks a n)])):
  OkF P w K mg base 14 "answer_of_store" ["keeper","call","store"] (HA K C):=by
 have AM:=cK.cl
 refine D.ok Gz (fun vs H Q E h=>?_) (fun f cdv A outer s H vs Q E hr h=>?_)
 ·obtain ⟨F,r,s,p,z,c,rfl,_⟩:=h
  rfl
 ·obtain ⟨F,r,s,p,z,c,rfl,hK,hS,hp,k⟩:=h
  have hu:=Ao hr
  refine ⟨_,(A2 (AE (i:=3) Gz.nd rfl (by nofun) (AD Aa (hr.mono (by decide)) (A0 (pv 0) (A0 (pv 2) A3))))
   (A2 (AH (AG (Di (pv 3)))
   (A5 (A6 (Af (A0 (pv 3) A3))))
   AB)
   (A2 (AH (AG (Ab (pv 1) (AI T.KNOWN)))
   (A5 (A6 (AD IU (hr.mono (by decide)) (A0 (pv 0) (A0 (pv 2) A3)))))
   AB)
   (A2 (AH (AG (Ab (pv 1) (AI T.ROW)))
   (A5 (A6 (AD KE (hr.mono (by decide)) (A0 (pv 0) (A0 (pv 2) A3)))))
   AB)
   (A2 (AH (AG (Ab (pv 1) (AI T.OUTCOME)))
   (A5 (A6 (AD GS (hr.mono (by decide)) (A0 (pv 0) (A0 (pv 2) A3)))))
   AB)
   (A2 (AH (AG (Ab (pv 1) (AI T.CONFLICTS)))
   (A5 (A6 (AD FT (hr.mono (by decide)) (A0 (pv 0) (A0 (pv 2) A3)))))
   AB)
   (A5 (A6 (AD JR (hr.mono (by decide)) (A0 (pv 0) (A0 (pv 2) A3))))))))))),?_⟩
  trivial
  rcases hS with rfl|⟨t,hT⟩
  ·have hst:Vapate.step Vapate.start c=(Vapate.start,[-8]):=by
    rcases hp with ⟨_,rfl⟩|⟨_,rfl⟩|⟨_,rfl⟩|⟨_,rfl⟩|⟨_,rfl⟩<;>rfl
   rw[hst]at k
   exact ⟨F,r,_,z,rfl,hK,fun _=>ifT (fun q=>nomatch q) (Aw k hK),fun t ht=>(nomatch ht),fun t ht=>(nomatch ht)⟩
  ·refine ⟨F,r,s,z,rfl,hK,fun q=>(by rw[hT.tree]at q;cases q),fun _ _ q=>ifT (fun q=>nomatch q) ?_,fun _ _ hz0 hz3=>ifF (fun q=>q rfl) ?_⟩
   ·have hst:Vapate.step s c=(s,[-2]):=by
     rcases hp with ⟨_,rfl⟩|⟨_,rfl⟩|⟨_,rfl⟩|⟨_,rfl⟩|⟨_,rfl⟩<;>(simp only[Vapate.step];exact EA hT q)
    rw[hst]at k
    exact Aw k hK
   ·obtain ⟨i,rfl⟩:=Int.eq_ofNat_of_zero_le hz0
    have hi:i<3:=by omega
    rcases hp with ⟨rfl,rfl⟩|⟨rfl,rfl⟩|⟨rfl,rfl⟩|⟨rfl,rfl⟩|⟨rfl,rfl⟩<;>(simp only[Vapate.step]at k;rw[DG hT hi]at k)
    ·exact ifT rfl ⟨F,r,s,t,i,rfl,hK,hT,hi,k⟩
    ·exact ifF (by decide) (ifT rfl ⟨F,r,s,t,i,rfl,hK,hT,hi,k⟩)
    ·exact ifF (by decide) (ifF (by decide) (ifT rfl ⟨F,r,s,t,i,rfl,hK,hT,hi,k⟩))
    ·exact ifF (by decide) (ifF (by decide) (ifF (by decide) (ifT rfl ⟨F,r,s,t,i,rfl,hK,hT,hi,k⟩)))
    ·exact ifF (by decide) (ifF (by decide) (ifF (by decide) (ifF (by decide) ⟨F,r,s,t,i,rfl,hK,hT,hi,k⟩)))
abbrev G0:Stmt:=top 123
theorem EN:AC ["keeper","reader","store","source","name"] ["keeper","reader"] (A7 G0):=⟨rfl,rfl,rfl,by decide+kernel,rfl,by decide+kernel,by decide+kernel⟩
def J3 (K:PySem.W.Frag) (C Cr:Addr):Sp:=fun vs H Q _=>∃(F:Addr->Prop) (r rd a:Addr) (ns:List Int) (j:Nat) (s:Vapate.State) (z y n:Int) (t:List Int),vs=[.ref r,.ref rd]/\Bo K C Cr F r rd a ns j H s/\Ps.Db s/\ns.drop j=z::y::n::t/\S9 K C Cr F r rd a ns H (Vapate.step s (.bring z y n)).1 (Vapate.step s (.bring z y n)).2 t Q
theorem Nq (T:BJ K mg) (cK:ClK K C) (cR:ClR K Cr) (D:AA K mg "answer_bring" G0 ["keeper","reader"]) (Ah:OkM P w K mg base 1 Cr "take" ["self"] (Cm K Cr)) (HW:OkF P w K mg base 3 "bring_patch" ["keeper","store","source","name"] (Jn K C)):OkF P w K mg base 4 "answer_bring" ["keeper","reader"] (J3 K C Cr):=by
 have AM:=cK.cl
 have Au:=cR.cl
 refine D.ok EN (fun vs H Q E h=>?_) (fun f cdv A outer s H vs Q E hr h=>?_)
 ·obtain ⟨F,r,rd,a,ns,j,s,z,y,n,t,rfl,_⟩:=h
  rfl
 ·obtain ⟨F,r,rd,a,ns,j,s,z,y,n,t,rfl,hB,hS,hd,k⟩:=h
  have hu:=Ao hr
  refine ⟨_,(A2 (AE (i:=2) EN.nd rfl (by nofun) (Cc Ah Au (hr.mono (by decide)) (pv 1)))
   (A2 (AE (i:=3) EN.nd rfl (by nofun) (Cc Ah Au (hr.mono (by decide)) (pv 1)))
   (A2 (AE (i:=4) EN.nd rfl (by nofun) (Cc Ah Au (hr.mono (by decide)) (pv 1)))
   (A5 (A6 (AD HW (hr.mono (by decide)) (A0 (pv 0) (A0 (pv 2) (A0 (pv 3) (A0 (pv 4) A3)))))))))),?_⟩
  trivial
  refine hB.take hd fun H1 hB1 b1 hd1=>hB1.take hd1 fun H2 hB2 b2 hd2=>hB2.take hd2 fun H3 hB3 b3 hd3=>?_
  exact ⟨F,r,s,z,y,n,rfl,hB3.kp,hS,k.to (((But.stay2 b1).trans (But.stay2 b2)).trans (But.stay2 b3)) hB3.rv hd3 hB.ne⟩
abbrev FU:Stmt:=top 124
theorem N2:AC ["keeper","call","store","second"] ["keeper","call","store","second"] (A7 FU):=⟨rfl,rfl,rfl,by decide+kernel,rfl,by decide+kernel,by decide+kernel⟩
def IV (K:PySem.W.Frag) (C:Addr):Sp:=fun vs H Q _=>∃(F:Addr->Prop) (r:Addr) (s:Vapate.State) (p z y:Int) (c:Vapate.Call),vs=[.ref r,.int p,.int z,.int y]/\Kp K C F H r s/\Ps.Db s/\((p=9/\c=.pull z y)\/(p=10/\c=.forget z y)\/(p=11/\c=.tag z y)\/(p=13/\c=.back z y)\/(p=14/\c=.alike z y))/\Ans K C F r H (Vapate.step s c).1 (Vapate.step s c).2 Q
theorem N3 (T:BJ K mg) (cK:ClK K C) (D:AA K mg "answer_of_two" FU ["keeper","call","store","second"]) (GT:OkF P w K mg base 3 "pull_patches" ["keeper","store","source"] (F8 K C .pull)) (GU:OkF P w K mg base 3 "forget_patch" ["keeper","store","name"] (F8 K C .forget)) (LR:OkF P w K mg base 2 "set_tag" ["keeper","store","tag"] (F8 K C .tag)) (LS:OkF P w K mg base 2 "go_back" ["keeper","store","tag"] (F8 K C .back)) (IW:OkF P w K mg base 13 "tell_alike" ["keeper","store","other"] (F8 K C .alike)):
  OkF P w K mg base 14 "answer_of_two" ["keeper","call","store","second"] (IV K C):=by
 have AM:=cK.cl
 refine D.ok N2 (fun vs H Q E h=>?_) (fun f cdv A outer s H vs Q E hr h=>?_)
 ·obtain ⟨F,r,s,p,z,y,c,rfl,_⟩:=h
  rfl
 ·obtain ⟨F,r,s,p,z,y,c,rfl,hK,hS,hp,k⟩:=h
  have hu:=Ao hr
  refine ⟨_,(A2 (AH (AG (Ab (pv 1) (AI T.PULL)))
   (A5 (A6 (AD GT (hr.mono (by decide)) (A0 (pv 0) (A0 (pv 2) (A0 (pv 3) A3))))))
   AB)
   (A2 (AH (AG (Ab (pv 1) (AI T.FORGET)))
   (A5 (A6 (AD GU (hr.mono (by decide)) (A0 (pv 0) (A0 (pv 2) (A0 (pv 3) A3))))))
   AB)
   (A2 (AH (AG (Ab (pv 1) (AI T.TAG)))
   (A5 (A6 (AD LR (hr.mono (by decide)) (A0 (pv 0) (A0 (pv 2) (A0 (pv 3) A3))))))
   AB)
   (A2 (AH (AG (Ab (pv 1) (AI T.BACK)))
   (A5 (A6 (AD LS (hr.mono (by decide)) (A0 (pv 0) (A0 (pv 2) (A0 (pv 3) A3))))))
   AB)
   (A5 (A6 (AD IW (hr.mono (by decide)) (A0 (pv 0) (A0 (pv 2) (A0 (pv 3) A3)))))))))),?_⟩
  trivial
  rcases hp with ⟨rfl,rfl⟩|⟨rfl,rfl⟩|⟨rfl,rfl⟩|⟨rfl,rfl⟩|⟨rfl,rfl⟩
  ·exact ifT rfl ⟨F,r,s,z,y,rfl,hK,hS,k⟩
  ·exact ifF (by decide) (ifT rfl ⟨F,r,s,z,y,rfl,hK,hS,k⟩)
  ·exact ifF (by decide) (ifF (by decide) (ifT rfl ⟨F,r,s,z,y,rfl,hK,hS,k⟩))
  ·exact ifF (by decide) (ifF (by decide) (ifF (by decide) (ifT rfl ⟨F,r,s,z,y,rfl,hK,hS,k⟩)))
  ·exact ifF (by decide) (ifF (by decide) (ifF (by decide) (ifF (by decide) ⟨F,r,s,z,y,rfl,hK,hS,k⟩)))
end
end
section
open Vapate (Known find blockOf endsOf needsOf)
def One (p z:Int) (c:Vapate.Call):Prop:=(p=2/\c=.known z)\/(p=3/\c=.row z)\/(p=4/\c=.outcome z)\/(p=5/\c=.conflicts z)\/(p=6/\c=.idle z)
def Two (p z y:Int) (c:Vapate.Call):Prop:=(p=9/\c=.pull z y)\/(p=10/\c=.forget z y)\/(p=11/\c=.tag z y)\/(p=13/\c=.back z y)\/(p=14/\c=.alike z y)
theorem XB {p:Int} {r:List Int} {c:Vapate.Call} {t:List Int} (h:Ps.rd1 (p::r)=some (c,t)):
  (p=0/\∃x,PyFlat.row r=some (x,t)/\c=.tree x)\/(p=1/\∃z n l e t1 x,r=z::n::l/\PyFlat.row l=some (e,t1)/\PyFlat.row t1=some (x,t)/\c=.record z n e x)\/
  (p=8/\∃z y n,r=z::y::n::t/\c=.bring z y n)\/(∃z y,r=z::y::t/\Two p z y c)\/(∃z,r=z::t/\(One p z c\/(p=7/\c=.block z)\/(p=12/\c=.at_ z))):=by
 unfold Ps.rd1 at h
 split at h
 next e=>cases e
 next p' r' e=>
 cases e
 by_cases p0:p=0
 ·rw[if_pos p0]at h
  split at h
  next x t' e=>cases h;exact .inl ⟨p0,x,e,rfl⟩
  ·cases h
 rw[if_neg p0]at h
 by_cases p1:p=1
 ·rw[if_pos p1]at h
  split at h
  next z n l=>
   split at h
   next e t1 e1=>
    split at h
    next x t' e2=>cases h;exact .inr (.inl ⟨p1,z,n,l,e,t1,x,rfl,e1,e2,rfl⟩)
    ·cases h
   ·cases h
  ·cases h
 rw[if_neg p1]at h
 by_cases p8:p=8
 ·rw[if_pos p8]at h
  split at h
  next z y n l=>cases h;exact .inr (.inr (.inl ⟨p8,z,y,n,rfl,rfl⟩))
  ·cases h
 rw[if_neg p8]at h
 by_cases p9:p=9
 ·rw[if_pos p9]at h
  split at h
  next z y l=>cases h;exact .inr (.inr (.inr (.inl ⟨z,y,rfl,.inl ⟨p9,rfl⟩⟩)))
  ·cases h
 rw[if_neg p9]at h
 by_cases p10:p=10
 ·rw[if_pos p10]at h
  split at h
  next z y l=>cases h;exact .inr (.inr (.inr (.inl ⟨z,y,rfl,.inr (.inl ⟨p10,rfl⟩)⟩)))
  ·cases h
 rw[if_neg p10]at h
 by_cases p11:p=11
 ·rw[if_pos p11]at h
  split at h
  next z y l=>cases h;exact .inr (.inr (.inr (.inl ⟨z,y,rfl,.inr (.inr (.inl ⟨p11,rfl⟩))⟩)))
  ·cases h
 rw[if_neg p11]at h
 by_cases p13:p=13
 ·rw[if_pos p13]at h
  split at h
  next z y l=>cases h;exact .inr (.inr (.inr (.inl ⟨z,y,rfl,.inr (.inr (.inr (.inl ⟨p13,rfl⟩)))⟩)))
  ·cases h
 rw[if_neg p13]at h
 by_cases p14:p=14
 ·rw[if_pos p14]at h
  split at h
  next z y l=>cases h;exact .inr (.inr (.inr (.inl ⟨z,y,rfl,.inr (.inr (.inr (.inr ⟨p14,rfl⟩)))⟩)))
  ·cases h
 rw[if_neg p14]at h
 split at h
 next z l=>
  refine .inr (.inr (.inr (.inr ?_)))
  by_cases p2:p=2
  ·rw[if_pos p2]at h;cases h;exact ⟨z,rfl,.inl (.inl ⟨p2,rfl⟩)⟩
  rw[if_neg p2]at h
  by_cases p3:p=3
  ·rw[if_pos p3]at h;cases h;exact ⟨z,rfl,.inl (.inr (.inl ⟨p3,rfl⟩))⟩
  rw[if_neg p3]at h
  by_cases p4:p=4
  ·rw[if_pos p4]at h;cases h;exact ⟨z,rfl,.inl (.inr (.inr (.inl ⟨p4,rfl⟩)))⟩
  rw[if_neg p4]at h
  by_cases p5:p=5
  ·rw[if_pos p5]at h;cases h;exact ⟨z,rfl,.inl (.inr (.inr (.inr (.inl ⟨p5,rfl⟩))))⟩
  rw[if_neg p5]at h
  by_cases p6:p=6
  ·rw[if_pos p6]at h;cases h;exact ⟨z,rfl,.inl (.inr (.inr (.inr (.inr ⟨p6,rfl⟩))))⟩
  rw[if_neg p6]at h
  by_cases p7:p=7
  ·rw[if_pos p7]at h;cases h;exact ⟨z,rfl,.inr (.inl ⟨p7,rfl⟩)⟩
  rw[if_neg p7]at h
  by_cases p12:p=12
  ·rw[if_pos p12]at h;cases h;exact ⟨z,rfl,.inr (.inr ⟨p12,rfl⟩)⟩
  rw[if_neg p12]at h
  cases h
 ·cases h
theorem One.rng {p z:Int} {c:Vapate.Call} (h:One p z c):2<=p/\p<=6:=by
 rcases h with ⟨rfl,_⟩|⟨rfl,_⟩|⟨rfl,_⟩|⟨rfl,_⟩|⟨rfl,_⟩<;>omega
theorem Two.rng {p z y:Int} {c:Vapate.Call} (h:Two p z y c):9<=p/\p<=14/\p≠12:=by
 rcases h with ⟨rfl,_⟩|⟨rfl,_⟩|⟨rfl,_⟩|⟨rfl,_⟩|⟨rfl,_⟩<;>omega
section
variable {P:Program} {w:World} {K:PySem.W.Frag} {mg:Str->Option Value} {base:Heap} {C Cr:Addr}
abbrev GV:Stmt:=top 125
theorem GW:AC ["keeper","reader","call","store"] ["keeper","reader"] (A7 GV):=⟨rfl,rfl,rfl,by decide+kernel,rfl,by decide+kernel,by decide+kernel⟩
def Jq (K:PySem.W.Frag) (C Cr:Addr):Sp:=fun vs H Q _=>∃(F:Addr->Prop) (r rd a:Addr) (ns:List Int) (j:Nat) (s:Vapate.State) (c:Vapate.Call) (t:List Int),vs=[.ref r,.ref rd]/\Bo K C Cr F r rd a ns j H s/\Ps.Db s/\Ps.rd1 (ns.drop j)=some (c,t)/\S9 K C Cr F r rd a ns H (Vapate.step s c).1 (Vapate.step s c).2 t Q
theorem Ot (T:BJ K mg) (cK:ClK K C) (cR:ClR K Cr) (D:AA K mg "answer_call" GV ["keeper","reader"]) (Ah:OkM P w K mg base 1 Cr "take" ["self"] (Cm K Cr)) (BF:OkM P w K mg base 2 Cr "take_list" ["self"] (D1 K Cr))
  (IX:OkF P w K mg base 4 "begin_tree" ["keeper","numbers"] (Kk K C)) (G1:OkF P w K mg base 14 "answer_record" ["keeper","reader"] (IT K C Cr)) (F5:OkF P w K mg base 14 "answer_of_store" ["keeper","call","store"] (HA K C)) (IY:OkF P w K mg base 4 "tell_block" ["keeper","name"] (Kn K C))
  (GX:OkF P w K mg base 4 "answer_bring" ["keeper","reader"] (J3 K C Cr)) (HX:OkF P w K mg base 12 "tell_tagged" ["keeper","tag"] (Jp K C)) (G2:OkF P w K mg base 14 "answer_of_two" ["keeper","call","store","second"] (IV K C)):OkF P w K mg base 15 "answer_call" ["keeper","reader"] (Jq K C Cr):=by
 have AM:=cK.cl
 have Au:=cR.cl
 refine D.ok GW (fun vs H Q E h=>?_) (fun f cdv A outer s H vs Q E hr h=>?_)
 ·obtain ⟨F,r,rd,a,ns,j,s,c,t,rfl,_⟩:=h
  rfl
 ·obtain ⟨F,r,rd,a,ns,j,s,c,t,rfl,hB,hS,hd,k⟩:=h
  have hu:=Ao hr
  refine ⟨_,(A2 (AE (i:=2) GW.nd rfl (by nofun) (Cc Ah Au (hr.mono (by decide)) (pv 1)))
   (A2 (AH (AG (Ab (pv 2) (AI T.TREE)))
   (A5 (A6 (AD IX (hr.mono (by decide)) (A0 (pv 0) (A0 (Cc BF Au (hr.mono (by decide)) (pv 1)) A3)))))
   AB)
   (A2 (AH (AG (Ab (pv 2) (AI T.RECORD)))
   (A5 (A6 (AD G1 (hr.mono (by decide)) (A0 (pv 0) (A0 (pv 1) A3)))))
   AB)
   (A2 (AH (Ej CN CN (AI T.KNOWN) (pv 2) (AI T.IDLE))
   (A5 (A6 (AD F5 (hr.mono (by decide)) (A0 (pv 0) (A0 (pv 2) (A0 (Cc Ah Au (hr.mono (by decide)) (pv 1)) A3))))))
   AB)
   (A2 (AH (AG (Ab (pv 2) (AI T.BLOCK)))
   (A5 (A6 (AD IY (hr.mono (by decide)) (A0 (pv 0) (A0 (Cc Ah Au (hr.mono (by decide)) (pv 1)) A3)))))
   AB)
   (A2 (AH (AG (Ab (pv 2) (AI T.BRING)))
   (A5 (A6 (AD GX (hr.mono (by decide)) (A0 (pv 0) (A0 (pv 1) A3)))))
   AB)
   (A2 (AH (AG (Ab (pv 2) (AI T.AT)))
   (A5 (A6 (AD HX (hr.mono (by decide)) (A0 (pv 0) (A0 (Cc Ah Au (hr.mono (by decide)) (pv 1)) A3)))))
   AB)
   (A2 (AH (Ej CN CN (AI T.PULL) (pv 2) (AI T.ALIKE))
   (A2 (AE (i:=3) GW.nd rfl (by nofun) (Cc Ah Au (hr.mono (by decide)) (pv 1)))
    (A5 (A6 (AD G2 (hr.mono (by decide)) (A0 (pv 0) (A0 (pv 2) (A0 (pv 3) (A0 (Cc Ah Au (hr.mono (by decide)) (pv 1)) A3))))))))
   AB)
   (A5 WR))))))))),?_⟩
  trivial
  cases hns:ns.drop j with
  |nil=>rw[hns]at hd;cases hd
  |cons p l=>
  rw[hns]at hd
  refine hB.take hns fun H1 hB1 b1 hd1=>?_
  have st1:=But.stay2 (r:=r) b1
  simp only[V.int.injEq,exists_eq_left']
  have hln:=hB.len
  have hll:l.length<=ns.length:=by rw[<-hd1,List.length_drop];omega
  rcases XB hd with ⟨rfl,x,h1,rfl⟩|⟨rfl,z,n,l',e,t1,x,rfl,h1,h2,rfl⟩|⟨rfl,z,y,n,rfl,rfl⟩|⟨z,y,rfl,h2⟩|⟨z,rfl,h1|⟨rfl,rfl⟩|⟨rfl,rfl⟩⟩
  ·have hle:=Rh h1
   rw[<-hd1]at h1
   exact ifT rfl (hB1.take_list h1 fun H2 q i hB2 b2 hd2 hq hn=>⟨F,r,s,q,x,rfl,hB2.kp,SqL.of hq,by omega,k.to (st1.trans (But.stay2 b2)) hB2.rv hd2 hB.ne⟩)
  ·exact ifF (by decide) (ifT rfl ⟨F,r,rd,a,ns,j+1,s,z,n,l',e,x,t1,t,rfl,hB1,hS,hd1,h1,h2,fun H' c j' hK st rv hd nf hc=>k H' c j' hK (st1.trans st) rv hd nf hc⟩)
  ·exact ifF (by decide) (ifF (by decide) (ifT (by decide) (ifF (by decide) (ifF (by decide) (ifT rfl ⟨F,r,rd,a,ns,j+1,s,z,y,n,t,rfl,hB1,hS,hd1,fun H' c j' hK st rv hd nf hc=>k H' c j' hK (st1.trans st) rv hd nf hc⟩)))))
  ·have rg:=h2.rng
   refine ifF (by omega) (ifF (by omega) (ifT (by omega) (ifF (by omega) (ifF (by omega) (ifF (by omega) (ifF (by omega) (ifT (by omega) (ifT (by omega) ?_))))))))
   refine hB1.take hd1 fun H2 hB2 b2 hd2=>hB2.take hd2 fun H3 hB3 b3 hd3=>?_
   exact ⟨F,r,s,p,z,y,c,rfl,hB3.kp,hS,h2,k.to ((st1.trans (But.stay2 b2)).trans (But.stay2 b3)) hB3.rv hd3 hB.ne⟩
  ·have rg:=h1.rng
   refine ifF (by omega) (ifF (by omega) (ifT (by omega) (ifT (by omega) ?_)))
   refine hB1.take hd1 fun H2 hB2 b2 hd2=>?_
   exact ⟨F,r,s,p,z,c,rfl,hB2.kp,hS,h1,k.to (st1.trans (But.stay2 b2)) hB2.rv hd2 hB.ne⟩
  ·refine ifF (by decide) (ifF (by decide) (ifT (by decide) (ifF (by decide) (ifT rfl ?_))))
   refine hB1.take hd1 fun H2 hB2 b2 hd2=>?_
   exact ⟨F,r,s,z,rfl,hB2.kp,hS,k.to (st1.trans (But.stay2 b2)) hB2.rv hd2 hB.ne⟩
  ·refine ifF (by decide) (ifF (by decide) (ifT (by decide) (ifF (by decide) (ifF (by decide) (ifF (by decide) (ifT rfl ?_))))))
   refine hB1.take hd1 fun H2 hB2 b2 hd2=>?_
   exact ⟨F,r,s,z,rfl,hB2.kp,hS,k.to (st1.trans (But.stay2 b2)) hB2.rv hd2 hB.ne⟩
abbrev G3:Stmt:=top 126
theorem EO:AC ["keeper","calls","reader","numbers","answer"] ["keeper","calls"] (A7 G3):=⟨rfl,rfl,rfl,by decide+kernel,rfl,by decide+kernel,by decide+kernel⟩
def J4 (K:PySem.W.Frag) (C:Addr):Sp:=fun vs H Q _=>∃(r a:Addr) (ns:List Int) (cs:List (List (List Int))) (f:Nat),vs=[.ref r,.ref a]/\Kp K C (fun _=>False) H r Vapate.start/\SqL K H a (ns.map V.int)/\ns.length<=5000/\PyFlat.calls PyVapate.shape f ns=some cs/\cs.length<=40/\∀H' c,H' c=some (.lst ((Ps.Ax Vapate.start cs).map V.int))->Q (.ref c) H'
theorem Kp.grow {F:Addr->Prop} {H H':Hp} {r:Addr} {s:Vapate.State} (h:Kp K C (fun _=>False) H r s) (e:A1 H H') (n:∀b,F b->H b=none) (f:FOk F H'):Kp K C F H' r s:=by
 obtain ⟨dx,fs,vt,ra,sa,ta,ds,h⟩:=h
 have e2:A1 (CH (Sx (fun _=>False) r ra ta ds) H) (CH (Sx F r ra ta ds) H'):=Ik (fun b o hb q=>by
  rcases q with q|q
  ·rw[n b q]at hb;cases hb
  ·exact .inr q) (A1.but e)
 obtain ⟨kvs,h1,h2,h2l⟩:=h.rcs
 obtain ⟨tv,h3,h4⟩:=h.tgs
 refine ⟨dx,fs,vt,ra,sa,ta,ds,e _ _ h.ins,h.fl,⟨kvs,e _ _ h1,h2.same e2,h2l⟩,⟨tv,e _ _ h3,h4.same e2⟩,e2 _ _ h.sts,fun i d hd=>?_,h.tree.same e2,h.dl,h.nd,fun q=>?_,f⟩
 ·obtain ⟨kv,q1,q2⟩:=h.st i d hd
  exact ⟨kv,e _ _ q1,q2⟩
 ·have:=n r q
  rw[h.ins]at this
  cases this
theorem Nr (T:BJ K mg) (cK:ClK K C) (cR:ClR K Cr) (D:AA K mg "answers_from" G3 ["keeper","calls"]) (N4:OkI P w K mg base 1 Cr "Reader" ["self","numbers"] (Jj Cr)) (F6:OkM P w K mg base 1 Cr "has_more" ["self"] (Gw K Cr)) (HY:OkF P w K mg base 15 "answer_call" ["keeper","reader"] (Jq K C Cr)):OkF P w K mg base 16 "answers_from" ["keeper","calls"] (J4 K C):=by
 have AM:=cK.cl
 have Au:=cR.cl
 refine D.ok EO (fun vs H Q E h=>?_) (fun f cdv A outer s H vs Q E hr h=>?_)
 ·obtain ⟨r,a,ns,cs,f,rfl,_⟩:=h
  rfl
 ·obtain ⟨r,a,ns,cs,fu,rfl,hK,hSq,hln,hcs,hcl,k⟩:=h
  have hu:=Ao hr
  refine ⟨_,(A2 (AE (i:=2) EO.nd rfl (by nofun) (Wn N4 (hr.mono (by decide)) (A0 (pv 1) A3)))
   (A2 (AE (i:=3) EO.nd rfl (by nofun) (Af A3))
   (A2 (Wf PassesOwn.never (Bv (Cc F6 Au (hr.mono (by decide)) (pv 2)))
   (A2 (AE (i:=4) EO.nd rfl (by nofun) (AD HY (hr.mono (by decide)) (A0 (pv 0) (A0 (pv 2) A3))))
    (A2 (BE (Es PySem.F.plainAttrs_list PySem.F.slot_list_append PySem.F.type_list_append Dk (pv 3) (A0 (AN AJ (by rfl) T.len PySem.boot_len (A0 (pv 4) A3)) A3)))
    (A5 (BE (Es PySem.F.plainAttrs_list PySem.F.slot_list_extend PySem.F.type_list_extend Lg (pv 3) (A0 (pv 4) A3)))))))
   (A5 (A6 (pv 3)))))),?_⟩
  trivial
  intro rd dx hrd hdx hne
  refine ⟨rd,a,dx,rfl,A4,fun H2 b2 rv2=>⟨rfl,AX (by omega),fun p hp=>?_⟩⟩
  have e1:A1 H (upd (upd H dx (.own rd)) rd (.ins Cr dx [])):=(A1.new hdx).trans (A1.new (by rw[A8 (Ne.symm hne)];exact hrd))
  have e2:A1 H H2:=fun b o h=>b2 b o (e1 b o h) (AV h hrd)
  have e3:A1 H (upd H2 p (.lst [])):=e2.trans (A1.new hp)
  have hp0:H p=none:=none_of e2 hp
  have hprd:p≠rd:=fun q=>by
   obtain ⟨_,_,z,-⟩:=rv2
   rw[<-q,hp]at z
   cases z
  have hkeep:∀(H1:Hp) (u:HO),SqL K H1 a (ns.map V.int)->SqL K (upd H1 p u) a (ns.map V.int):=by
   have key:a≠p->∀(H1:Hp) (u:HO),SqL K H1 a (ns.map V.int)->SqL K (upd H1 p u) a (ns.map V.int):=by
    rintro hap H1 u ((q|⟨o,q⟩)|q)
    ·exact .inl (.inl (by rw[A8 hap];exact q))
    ·exact .inl (.inr ⟨o,by rw[A8 hap];exact q⟩)
    ·exact .inr q
   rcases hSq with (q|⟨o,q⟩)|q
   ·exact key (AV q hp0)
   ·exact key (AV q hp0)
   ·exact fun _ _ _=>.inr q
  have rv3:RdV Cr (upd H2 p (.lst [])) rd a ((0:Nat):Int):=by
   obtain ⟨dx',fs',z1,z2⟩:=rv2
   exact ⟨dx',fs',by rw[A8 (Ne.symm hprd)];exact z1,z2⟩
  have hB0:Bo K C Cr (fun b=>b=rd\/b=p) r rd a ns 0 (upd H2 p (.lst [])) Vapate.start:=by
   refine ⟨hK.grow (F:=fun b=>b=rd\/b=p) e3 (fun b q=>q.elim (fun q=>q▸hrd) (fun q=>q▸hp0)) ?_,rv3,e3.seq hSq,.inl rfl,hln⟩
   rintro b (rfl|rfl)
   ·obtain ⟨dx',fs',z1,z2⟩:=rv3
    exact .inr ⟨_,_,_,z1⟩
   ·exact .inl ⟨[],A4⟩
  refine ⟨fun m σ H'=>∃(j:Nat) (s:Vapate.State) (cs':List (List (List Int))) (f:Nat) (out:List Int) (o:Option V),m=cs'.length/\σ=[some (.ref r),some (.ref a),some (.ref rd),some (.ref p),o]/\Bo K C Cr (fun b=>b=rd\/b=p) r rd a ns j H' s/\Ps.Db s/\PyFlat.calls PyVapate.shape f (ns.drop j)=some cs'/\
   H' p=some (.lst (out.map V.int))/\out++Ps.Ax s cs'=Ps.Ax Vapate.start cs/\out.length+1991*cs'.length<=1991*40,⟨cs.length,0,Vapate.start,cs,fu,[],none,rfl,rfl,hB0,.inl rfl,hcs,A4,rfl,by simp;omega⟩,?_⟩
  rintro m σ H' ⟨j,s,cs',f',out,o,rfl,rfl,hB,hS,hcs',hout,hres,hlen⟩
  obtain ⟨dx3,fs3,z1,z2⟩:=id hB.rv
  trivial
  refine ⟨dx3,fs3,z1,z2.m1,rd,a,j,ns,rfl,hB.rv,hB.sq,_,rfl,?_⟩
  by_cases hj:j<ns.length
  ·refine ifT (decide_eq_true hj) ?_
   have hpl:ns.drop j=ns[j]::ns.drop (j+1):=List.drop_eq_getElem_cons hj
   rw[hpl]at hcs'
   obtain ⟨c,t,cs2,f2,q1,q2,q3,q4,q5⟩:=Ps.Wl hcs' s
   have hsl:=Ps.WT hS c
   refine ⟨fun σ' H''=>∃(j2:Nat) (o2:Option V) (out2:List Int),σ'=[some (.ref r),some (.ref a),some (.ref rd),some (.ref p),o2]/\Bo K C Cr (fun b=>b=rd\/b=p) r rd a ns j2 H'' (Vapate.step s c).1/\ns.drop j2=t/\H'' p=some (.lst (out2.map V.int))/\out2++Ps.Ax (Vapate.step s c).1 cs2=Ps.Ax Vapate.start cs/\out2.length+1991*cs2.length<=1991*40,?_,?_⟩
   ·rintro σ' H'' ⟨j2,o2,out2,rfl,hB2,hd2,ho2,hr2,hl2⟩
    exact ⟨cs2.length,by omega,j2,_,cs2,rfl,⟨o2,rfl⟩,hB2,Ps.WD hS c,⟨f2,by rw[hd2];exact q2⟩,out2,ho2,hr2,hl2⟩
   ·refine ⟨_,r,rd,a,ns,j,s,c,t,rfl,hB,hS,by rw[hpl];exact q1,fun H3 b j3 hK3 st3 rv3 hd3 nf3 hb3=>?_⟩
    have hpr:p≠r:=fun e=>hB.kp.nf (.inr e.symm)
    have hp3:H3 p=some (.lst (out.map V.int)):=st3 _ _ hout (nor hpr hprd) (fun _ q=>nomatch q)
    have hbp:b≠p:=fun e=>nf3 (.inr e)
    have hsq3:SqL K H3 a (ns.map V.int):=by
     obtain ⟨dx9,fs9,vt9,ra9,sa9,ta9,ds9,h9⟩:=id hB.kp
     rcases hB.sq with (q|⟨o,q⟩)|q
     ·exact .inl (.inl (st3 _ _ q (nor (Dv q h9.ins (by intro q;cases q)) (Dv q z1 (by intro q;cases q))) (fun _ q=>nomatch q)))
     ·exact .inl (.inr ⟨o,st3 _ _ q (nor (Dv q h9.ins (by intro q;cases q)) (Dv q z1 (by intro q;cases q))) (fun _ q=>nomatch q)⟩)
     ·exact .inr q
    have hol:(out.map V.int).length<=80000:=by rw[List.length_map];omega
    have hal:((Vapate.step s c).2.map V.int).length<=1990:=by rw[List.length_map];omega
    refine ⟨.inl ⟨rfl,_,SqL.of hp3⟩,b,rfl,_,.inl (SqL.of hb3),_,hp3,szl (by omega),.inl ⟨rfl,_,SqL.of A4⟩,b,rfl,_,A4,_,by rw[A8 hbp];exact hb3,AX (by simp only[List.length_append,List.length_cons,List.length_nil];omega),?_⟩
    rw[C7]
    have ho4:out.map V.int++[V.int (((Vapate.step s c).2.map V.int).length:Nat)]++(Vapate.step s c).2.map V.int=(out++(((Vapate.step s c).2.length:Nat):Int)::(Vapate.step s c).2).map V.int:=by simp
    rw[ho4]
    refine ⟨j3,_,_,rfl,⟨hK3.but (fun c2 o2 h2 n2=>?_) ?_,?_,hkeep _ _ hsq3,.inl rfl,hln⟩,hd3,A4,?_,?_⟩
    ·rw[A8 fun e=>n2 (.inr e)]
     exact h2
    ·rintro b2 (rfl|rfl)
     ·obtain ⟨_,_,y1,-⟩:=rv3
      exact .inr ⟨_,_,_,by rw[A8 (Ne.symm hprd)];exact y1⟩
     ·exact .inl ⟨_,A4⟩
    ·obtain ⟨d9,f9,y1,y2⟩:=rv3
     exact ⟨d9,f9,by rw[A8 (Ne.symm hprd)];exact y1,y2⟩
    ·rw[<-hres,q5]
     simp
    ·simp only[List.length_append,List.length_cons]
     rw[q3]at hlen
     omega
  ·refine ifF (by simp[hj]) ?_
   rw[List.drop_eq_nil_of_le (by omega)]at hcs'
   have:=Ps.XS hcs'
   subst this
   rw[Ps.WS,List.append_nil]at hres
   exact k H' p (by rw[<-hres];exact hout)
abbrev Cd:Stmt:=top 127
theorem To:AC ["calls"] ["calls"] (A7 Cd):=⟨rfl,rfl,rfl,by decide+kernel,rfl,by decide+kernel,by decide+kernel⟩
def KF (K:PySem.W.Frag):Sp:=fun vs H Q _=>∃(a:Addr) (ns:List Int),vs=[.ref a]/\SqL K H a (ns.map V.int)/\ns.length<=5000/\PyVapate.answers_asked ns=true/\∀H' c,H' c=some (.lst ((PyVapate.answers ns).map V.int))->Q (.ref c) H'
theorem Tq {fa:Addr} {fd:FuncData} (T:BJ K mg) (cK:ClK K C) (D:Fun K "answers" "answers" Cd fa fd) (N5:OkI P w K mg base 2 C "Keeper" ["self"] (Jl K C)) (GY:OkF P w K mg base 16 "answers_from" ["keeper","calls"] (J4 K C)):Ef P w K mg base CX0 17 fa fd ["calls"] (KF K):=by
 have AM:=cK.cl
 refine D.ok To (fun vs H Q E h=>?_) (fun cdv A outer s H vs Q E hr h=>?_)
 ·obtain ⟨a,ns,rfl,_⟩:=h
  rfl
 ·obtain ⟨a,ns,rfl,hSq,hln,has,k⟩:=h
  have hu:=Ao hr
  refine ⟨_,(A5 (A6 (AD GY (hr.mono (by decide)) (A0 (Xw N5 (hr.mono (by decide))) (A0 (pv 0) A3))))),?_⟩
  trivial
  obtain ⟨cs,h1,h2,h3⟩:=Ps.SL has
  intro r dx hr0 hdx hne
  refine ⟨fun _=>False,r,dx,rfl,A4,fun _ q=>q.elim,fun q=>q,fun H2 hK2 b2=>⟨rfl,?_⟩⟩
  have e1:A1 H (upd (upd H dx (.own r)) r (.ins C dx [])):=(A1.new hdx).trans (A1.new (by rw[A8 (Ne.symm hne)];exact hr0))
  have e2:A1 H H2:=fun b o h=>b2 b o (e1 b o h) (AV h hr0)
  exact ⟨r,a,ns,cs,_,rfl,hK2,e2.seq hSq,hln,h1,h3,fun H' c hc=>k H' c (by rw[h2];exact hc)⟩
end
end
end Pz
section
namespace Pz
open PySem PySem.Spec PyProof.Rows L2
section
variable {K:PySem.W.Frag} {h:Heap} {mg:Str->Option Value}
theorem AA.mk {x:Str} {st:Stmt} {ps:List Str} (X:K.In h) (G:h.Ns mainGlobals mg) {f:Addr} {oc:Value} {od an:Option Addr} {osl:Array (Option Value)} {kV doc pm cdv ct:Value}
  (a:PySem.W.nsIn K mainGlobals x=some (some (.ref f))) (l:K.lookup f=some ⟨oc,od,.func (PySem.W.fnOf x x (D8 st) (C8 st) (A7 st) .none kV doc pm an cdv ct),osl⟩) (c:PySem.W.codeIn K cdv x=true) (k:PySem.W.keepIn K (.ref f)=true)
  (b:∀(kV doc pm:Value) (an:Option Addr) (cdv ct:Value) (us:List Value),us.length=ps.length->bindArgs (PySem.W.fnOf x x (D8 st) (C8 st) (A7 st) .none kV doc pm an cdv ct) ⟨us,[]⟩=pure (ps.zip us)):AA K mg x st ps:=
 ⟨f,_,Ip l c k,PySem.W.mg_of X G a,(Ip (st:=st) l c k).binds b⟩
theorem MethAt.mk {C:Addr} {m qual:Str} {st:Stmt} {ps:List Str} {f:Addr} {oc:Value} {od an:Option Addr} {osl:Array (Option Value)} {kV doc pm cdv ct:Value}
  (a:PySem.W.findIn K (.ref C) m=some (some (.ref f))) (i:PySem.W.isFn K (.ref f)=true) (l:K.lookup f=some ⟨oc,od,.func (PySem.W.fnOf m qual (D8 st) (C8 st) (A7 st) .none kV doc pm an cdv ct),osl⟩) (c:PySem.W.codeIn K cdv qual=true) (k:PySem.W.keepIn K (.ref f)=true)
  (b:∀(kV doc pm:Value) (an:Option Addr) (cdv ct:Value) (us:List Value),us.length=ps.length->bindArgs (PySem.W.fnOf m qual (D8 st) (C8 st) (A7 st) .none kV doc pm an cdv ct) ⟨us,[]⟩=pure (ps.zip us)):MethAt K C m qual st ps:=
 ⟨f,_,Ip l c k,⟨a,i,k⟩,(Ip (st:=st) l c k).binds b⟩
theorem Ed.mk {C:Addr} {x qual:Str} {st:Stmt} {ps:List Str} {f:Addr} {oc:Value} {od an:Option Addr} {osl:Array (Option Value)} {kV doc pm cdv ct:Value} (e:mg x=some (.ref C)) (m:PySem.W.makesIn K C=true) (kc:PySem.W.keepIn K (.ref C)=true)
  (a:PySem.W.findIn K (.ref C) "__init__"=some (some (.ref f))) (i:PySem.W.isFn K (.ref f)=true) (l:K.lookup f=some ⟨oc,od,.func (PySem.W.fnOf "__init__" qual (D8 st) (C8 st) (A7 st) .none kV doc pm an cdv ct),osl⟩) (c:PySem.W.codeIn K cdv qual=true) (k:PySem.W.keepIn K (.ref f)=true)
  (b:∀(kV doc pm:Value) (an:Option Addr) (cdv ct:Value) (us:List Value),us.length=ps.length->bindArgs (PySem.W.fnOf "__init__" qual (D8 st) (C8 st) (A7 st) .none kV doc pm an cdv ct) ⟨us,[]⟩=pure (ps.zip us)):Ed K mg C x qual st ps:=
 ⟨f,_,Ip l c k,⟨m,a,i,kc⟩,e,(Ip (st:=st) l c k).binds b⟩
theorem Y6 {x:Str} {i:Int} (X:K.In h) (G:h.Ns mainGlobals mg) {t} (a:PySem.W.nsIn K mainGlobals x=some (some (.int i t))):∃t,mg x=some (.int i t):=⟨t,PySem.W.mg_of X G a⟩
end
structure Yi (K:PySem.W.Frag) (mg:Str->Option Value) (CK CB CR:Addr):Prop where
 N6:∃t,mg "MOST_FILE_NAME"=some (.int 9 t)
 RJ:∃t,mg "MOST_TOKEN"=some (.int 99 t)
 XZ:∃t,mg "HUNK"=some (.int 0 t)
 Xa:∃t,mg "SWAP"=some (.int 1 t)
 Ws:∃t,mg "ADDED"=some (.int 2 t)
 V2:∃t,mg "REMOVED"=some (.int 3 t)
 Wt:∃t,mg "MOVED"=some (.int 4 t)
 RK:∃t,mg "MOST_PLACE"=some (.int 1000 t)
 LU:∃t,mg "MOST_HUNK_TOKENS"=some (.int 8 t)
 RL:∃t,mg "MOST_FILES"=some (.int 6 t)
 LV:∃t,mg "MOST_TREE_TOKENS"=some (.int 12 t)
 Vv:∃t,mg "STORES"=some (.int 3 t)
 Nt:∃t,mg "MOST_RECORDED"=some (.int 12 t)
 MW:∃t,mg "MOST_PATCH_NAME"=some (.int 99 t)
 Sa:∃t,mg "NOT_WHOLE"=some (.int (-1) t)
 Nu:∃t,mg "NO_SUCH_STORE"=some (.int (-2) t)
 Ou:∃t,mg "NAME_REFUSED"=some (.int (-3) t)
 Ov:∃t,mg "DOES_NOT_FIT"=some (.int (-4) t)
 Ow:∃t,mg "ENDS_REFUSED"=some (.int (-5) t)
 LW:∃t,mg "TOO_MANY_PATCHES"=some (.int (-6) t)
 L0:∃t,mg "ENDS_ITS_OWN_NEED"=some (.int (-7) t)
 V3:∃t,mg "NO_TREE"=some (.int (-8) t)
 Tr:∃t,mg "NOT_LIVE"=some (.int 1 t)
 QP:∃t,mg "IN_CONFLICT"=some (.int 2 t)
 Ts:∃t,mg "MOST_TAG"=some (.int 3 t)
 QQ:∃t,mg "TAG_REFUSED"=some (.int (-5) t)
 Xb:∃t,mg "TREE"=some (.int 0 t)
 Vw:∃t,mg "RECORD"=some (.int 1 t)
 Wu:∃t,mg "KNOWN"=some (.int 2 t)
 YQ:∃t,mg "ROW"=some (.int 3 t)
 V4:∃t,mg "OUTCOME"=some (.int 4 t)
 Sb:∃t,mg "CONFLICTS"=some (.int 5 t)
 Xc:∃t,mg "IDLE"=some (.int 6 t)
 Wv:∃t,mg "BLOCK"=some (.int 7 t)
 Ww:∃t,mg "BRING"=some (.int 8 t)
 Xd:∃t,mg "PULL"=some (.int 9 t)
 Vx:∃t,mg "FORGET"=some (.int 10 t)
 YR:∃t,mg "TAG"=some (.int 11 t)
 c_AT:∃t,mg "AT"=some (.int 12 t)
 Xe:∃t,mg "BACK"=some (.int 13 t)
 Wx:∃t,mg "ALIKE"=some (.int 14 t)
 YS:mg "len"=none
 YT:mg "any"=none
 YU:mg "all"=none
 Xf:mg "list"=none
 Wy:mg "tuple"=none
 Vy:mg "sorted"=none
 Wz:mg "range"=none
 Sc:mg "enumerate"=none
 Tt:mg "reversed"=none
 Xg:mg "dict"=none
 Vz:Cls K CK
 L1:B7 K CK "first_tree"
 MX:B7 K CK "recorded"
 Nv:B7 K CK "stores"
 QR:B7 K CK "tags"
 Tu:Cls K CB
 N7:B7 K CB "block"
 Nw:B7 K CB "ends"
 W0:Cls K CR
 N8:B7 K CR "numbers"
 Ox:B7 K CR "place"
 Oy:AA K mg "is_file_name" Ff ["number"]
 Tv:AA K mg "is_token" JF ["number"]
 QS:AA K mg "read_tokens" Ek ["numbers","place","most"]
 Oz:AA K mg "write_tokens" Fg ["tokens"]
 Sd:AA K mg "is_inside" Hy ["step"]
 W1:AA K mg "growth" L7 ["hunk"]
 P0:AA K mg "hunk_shifted" Fi ["hunk","by"]
 RM:AA K mg "put_inside" HH ["step","name"]
 Ny:AA K mg "names_of_step" FJ ["step"]
 P1:AA K mg "turned_round" Fj ["step"]
 V5:AA K mg "swapped" Hk ["tokens","swap"]
 P2:AA K mg "hunk_swapped" Fk ["hunk","swap"]
 LX:AA K mg "have_common_name" Cw ["first","second"]
 N9:AA K mg "commuted_hunks" Eu ["first","second"]
 NA:AA K mg "commuted_swaps" Ev ["first","second"]
 JS:AA K mg "commuted_in_one_file" D4 ["first","second"]
 Tw:AA K mg "commuted" JH ["first","second"]
 LY:AA K mg "commuted_patches" EB ["first","second"]
 P3:AA K mg "names_of_row" EJ ["row"]
 Jr:AA K mg "without_patch_ahead" DK ["patch","row"]
 Nz:AA K mg "brought_ahead" FM ["row","place","front"]
 LZ:AA K mg "row_turned_round" Cz ["row"]
 W2:AA K mg "merged" L8 ["first","second"]
 QT:AA K mg "picked_last" GK ["row"]
 La:AA K mg "brought_to_front" ED ["row","names"]
 O0:AA K mg "with_least_at" FN ["row","front"]
 Tx:AA K mg "one_form" JJ ["row"]
 W3:AA K mg "joined" J0 ["first","second"]
 Se:AA K mg "read_swap" IA ["numbers"]
 Iu:AA K mg "read_added_or_removed" Cp ["numbers"]
 RN:AA K mg "read_moved" HI ["numbers"]
 Sf:AA K mg "read_hunk" ID ["numbers"]
 Sg:AA K mg "read_step" IF ["numbers"]
 RO:AA K mg "write_step" HJ ["step"]
 Sh:AA K mg "write_row" IH ["row"]
 Si:AA K mg "hunk_fits" IK ["hunk","tokens"]
 Sj:AA K mg "with_hunk" IM ["tokens","hunk"]
 Xh:AA K mg "fits" Oj ["step","tree"]
 V6:AA K mg "applied" K6 ["step","tree"]
 V7:AA K mg "outcome" K7 ["tree","row"]
 RP:AA K mg "write_tree" HK ["tree"]
 Sk:AA K mg "read_tree" IN ["numbers"]
 QU:AA K mg "ended_names" GL ["recorded","names"]
 RQ:AA K mg "live_names" FD ["recorded","names"]
 L3:AA K mg "conflicting_pairs" Do ["recorded","names"]
 P4:AA K mg "acting_names" EK ["recorded","names"]
 Sl:AA K mg "store_row" IP ["recorded","names"]
 QV:Ed K mg CR "Reader" "Reader.__init__" EW ["self","numbers"]
 MY:MethAt K CR "has_more" "Reader.has_more" EX ["self"]
 QW:MethAt K CR "take" "Reader.take" GN ["self"]
 Lb:MethAt K CR "take_list" "Reader.take_list" EE ["self"]
 MZ:MethAt K CK "names_in" "Keeper.names_in" EY ["self","store"]
 NB:MethAt K CK "take_in" "Keeper.take_in" Ew ["self","store","names"]
 Lc:MethAt K CK "leave_out" "Keeper.leave_out" EG ["self","store","names"]
 O1:Ed K mg CB "Recorded" "Recorded.__init__" Dr ["self","block","ends"]
 QX:MethAt K CK "keep" "Keeper.keep" GO ["self","store","name","block","ends"]
 O2:MethAt K CK "row_in" "Keeper.row_in" FO ["self","store"]
 P5:MethAt K CK "begin" "Keeper.begin" EL ["self","first_tree"]
 QY:Ed K mg CK "Keeper" "Keeper.__init__" EZ ["self"]
 O3:AA K mg "store_refusal" FP ["keeper","store"]
 RR:AA K mg "begin_tree" HP ["keeper","numbers"]
 RS:AA K mg "tell_known" HQ ["keeper","store"]
 Tz:AA K mg "tell_row" JP ["keeper","store"]
 P6:AA K mg "tell_outcome" Fv ["keeper","store"]
 NC:AA K mg "tell_conflicts" Ey ["keeper","store"]
 Sm:AA K mg "tell_idle" Fw ["keeper","store"]
 RT:AA K mg "tell_block" HR ["keeper","name"]
 ND:AA K mg "ends_are_right" Ez ["keeper","store","ends"]
 NE:AA K mg "record_refusal" F1 ["keeper","store","name","ends","step"]
 P7:AA K mg "record_patch" EM ["keeper","store","name","ends","numbers"]
 NF:AA K mg "stores_refusal" F2 ["keeper","store","other"]
 QZ:AA K mg "bring_patch" GP ["keeper","store","source","name"]
 P8:AA K mg "pull_patches" Fx ["keeper","store","source"]
 Ma:AA K mg "names_that_need" DC ["keeper","store","name"]
 P9:AA K mg "forget_patch" Fy ["keeper","store","name"]
 V8:AA K mg "set_tag" KC ["keeper","store","tag"]
 Qa:AA K mg "tell_tagged" GQ ["keeper","tag"]
 V9:AA K mg "go_back" KD ["keeper","store","tag"]
 RU:AA K mg "tell_alike" HV ["keeper","store","other"]
 O4:AA K mg "answer_record" FS ["keeper","reader"]
 Mb:AA K mg "answer_of_store" Eb ["keeper","call","store"]
 PB:AA K mg "answer_bring" G0 ["keeper","reader"]
 O5:AA K mg "answer_of_two" FU ["keeper","call","store","second"]
 Qb:AA K mg "answer_call" GV ["keeper","reader"]
 PD:AA K mg "answers_from" G3 ["keeper","calls"]
theorem fin {P:Program} {w:World} {K:PySem.W.Frag} {h:Heap} {mg:Str->Option Value} {fa CK CB CR f3:Addr} (X:K.In h) (G:h.Ns mainGlobals mg) (hfa:mg "answers"=some (.ref fa))
  {oc3 kV3 dc3 pm3 cd3 ct3:Value} {od3 an3:Option Addr} {sl3:Array (Option Value)}
  (aK:PySem.W.nsIn K mainGlobals "Keeper"=some (some (.ref CK))) (aB:PySem.W.nsIn K mainGlobals "Recorded"=some (some (.ref CB))) (aR:PySem.W.nsIn K mainGlobals "Reader"=some (some (.ref CR)))
  (a3:PySem.W.nsIn K mainGlobals "answers"=some (some (.ref f3))) (l3:K.lookup f3=some ⟨oc3,od3,.func (PySem.W.fnOf "answers" "answers" (D8 Cd) (C8 Cd) (A7 Cd) .none kV3 dc3 pm3 an3 cd3 ct3),sl3⟩) (c3:PySem.W.codeIn K cd3 "answers"=true) (k3:PySem.W.keepIn K (.ref f3)=true)
  (T0:Yi K mg CK CB CR):
  ∃fd:FuncData,(∀(s:Shared) (us:List Value),us.length=(["calls"]:List Str).length->BindsTo s fd ⟨us,[]⟩ ((["calls"]:List Str).zip us))/\∀base:Heap,K.In base->base.Ns mainGlobals mg->Ef P w K mg base CX0 17 fa fd ["calls"] (KF K):=by
 have e:=hfa.symm.trans (PySem.W.mg_of X G a3)
 cases e
 have F3:=Ip (st:=Cd) l3 c3 k3
 refine ⟨PySem.W.fnOf "answers" "answers" (D8 Cd) (C8 Cd) (A7 Cd) .none kV3 dc3 pm3 an3 cd3 ct3,fun s us hu=>match us,hu with|[_],_=>.of_eq rfl,fun base _ _=>?_⟩
 have T1:Txt K mg:=⟨T0.N6,T0.RJ,T0.XZ,T0.Xa,T0.Ws,T0.V2,T0.Wt,T0.RK,T0.LU,T0.YS,T0.YT,T0.YU,T0.Xf,T0.Wy,T0.Vy,T0.Wz,T0.Sc,T0.Tt,T0.Xg⟩
 have T2:Wj K mg:=⟨T1,T0.RL,T0.LV⟩
 have T:BJ K mg:=⟨T2,T0.Vv,T0.Nt,T0.MW,T0.Sa,T0.Nu,T0.Ou,T0.Ov,T0.Ow,T0.LW,T0.L0,T0.V3,T0.Tr,T0.QP,T0.Ts,T0.QQ,T0.Xb,T0.Vw,T0.Wu,T0.YQ,T0.V4,T0.Sb,T0.Xc,T0.Wv,T0.Ww,T0.Xd,T0.Vx,T0.YR,T0.c_AT,T0.Xe,T0.Wx⟩
 have cK:ClK K CK:=⟨T0.Vz,T0.L1,T0.MX,T0.Nv,T0.QR⟩
 have cB:ClB K CB:=⟨T0.Tu,T0.N7,T0.Nw⟩
 have cR:ClR K CR:=⟨T0.W0,T0.N8,T0.Ox⟩
 have Am:=@NX P w K mg base T1 T0.Oy
 have Dl:=@SS P w K mg base T1 T0.Tv
 have CZ:=@Oh P w K mg base T1 T0.QS Dl
 have CG:=@NZ P w K mg base T1 T0.Oz
 have E5:=@R6 P w K mg base T1 T0.Sd
 have K4:=@Uy P w K mg base T1 T0.W1
 have El:=@Nb P w K mg base T1 T0.P0
 have Fl:=@QE P w K mg base T1 T0.RM
 have EI:=@Ms P w K mg base T1 T0.Ny
 have GJ:=@Nc P w K mg base T1 T0.P1
 have ER:=@Th P w K mg base T1 T0.V5
 have Em:=@Nf P w K mg base T1 T0.P2 ER
 have ES:=@Kv P w K mg base T1 T0.LX EI
 have FK:=@MP P w K mg base T1 T0.N9 El K4
 have FL:=@MR P w K mg base T1 T0.NA
 have DJ:=@Ir P w K mg base T1 T0.JS FK FL Em
 have K5:=@SV P w K mg base T1 T0.Tw ES E5 DJ Fl
 have Bi:=@Kw P w K mg base T1 T0.LY K5
 have Ad:=@Ng P w K mg base T1 T0.P3
 have DX:=@JI P w K mg base T1 T0.Jr Bi
 have BC:=@Mt P w K mg base T1 T0.Nz Bi
 have ET:=@Kx P w K mg base T1 T0.LZ GJ
 have Mv:=@Uz P w K mg base T1 T0.W2 ET BC
 have HS:=@Oi P w K mg base T1 T0.QT DX
 have DA:=@Ky P w K mg base T1 T0.La Ad BC
 have Fo:=@Mu P w K mg base T1 T0.O0 BC
 have K9:=@SW P w K mg base T1 T0.Tx Fo
 have GM:=@V0 P w K mg base T1 T0.W3 Ad DA Mv
 have JL:=@R8 P w K mg base T1 T0.Se Am Dl
 have D5:=@IC P w K mg base T1 T0.Iu Am
 have IG:=@QG P w K mg base T1 T0.RN Am
 have JK:=@R9 P w K mg base T1 T0.Sf Am CZ
 have JQ:=@RA P w K mg base T1 T0.Sg JK JL D5 IG
 have IJ:=@QI P w K mg base T1 T0.RO CG
 have E8:=@RB P w K mg base T1 T0.Sh IJ
 have JM:=@RC P w K mg base T1 T0.Si
 have JN:=@RD P w K mg base T1 T0.Sj
 have RI:=@Wq P w K mg base T1 T0.Xh JM
 have LI:=@Ti P w K mg base T1 T0.V6 JN ER
 have DB:=@Tj P w K mg base T1 T0.V7 LI
 have DY:=@QJ P w K mg base T1 T0.RP CG
 have JO:=@RE P w K mg base T2 T0.Sk Am CZ
 have HN:=@Ol P w K mg base T1 T0.QU
 have Bu:=@QK P w K mg base T1 T0.RQ HN Ad
 have BY:=@K8 P w K mg base T1 T0.L3 Bu GM
 have Ck:=@Ni P w K mg base T1 T0.P4 Bu BY
 have E6:=@RF P w K mg base T1 T0.Sl Ck GM K9
 have N4:=Om (P:=P) (w:=w) (mg:=mg) (base:=base) cR T0.QV
 have F6:=LM (P:=P) (w:=w) (mg:=mg) (base:=base) T1 cR T0.MY
 have Ah:=On (P:=P) (w:=w) (mg:=mg) (base:=base) cR T0.QW
 have BF:=Kz (P:=P) (w:=w) (mg:=mg) (base:=base) cR T0.Lb Ah
 have AK:=SX (P:=P) (w:=w) (mg:=mg) (base:=base) T cK T0.MZ
 have Ar:=Tk (P:=P) (w:=w) (mg:=mg) (base:=base) T cK T0.NB
 have Bj:=RG (P:=P) (w:=w) (mg:=mg) (base:=base) T cK T0.Lc
 have KB:=Mw (P:=P) (w:=w) (mg:=mg) (base:=base) cB T0.O1
 have HU:=Wr (P:=P) (w:=w) (mg:=mg) (base:=base) T cK cB T0.QX KB Ar
 have Aq:=V1 (P:=P) (w:=w) (mg:=mg) (base:=base) T cK T0.O2 AK E6
 have Cn:=Vu (P:=P) (w:=w) (mg:=mg) (base:=base) T cK T0.P5
 have N5:=Op (P:=P) (w:=w) (mg:=mg) (base:=base) T cK T0.QY Cn
 have Aa:=N0 (P:=P) (w:=w) (mg:=mg) (base:=base) T cK T0.O3
 have IX:=QL (P:=P) (w:=w) (mg:=mg) (base:=base) T cK T0.RR JO Cn
 have IU:=QM (P:=P) (w:=w) (mg:=mg) (base:=base) T cK T0.RS AK
 have KE:=SZ (P:=P) (w:=w) (mg:=mg) (base:=base) T cK T0.Tz Aq E8
 have GS:=Nk (P:=P) (w:=w) (mg:=mg) (base:=base) T cK T0.P6 Aq DY DB
 have FT:=MS (P:=P) (w:=w) (mg:=mg) (base:=base) T cK T0.NC AK BY
 have JR:=RH (P:=P) (w:=w) (mg:=mg) (base:=base) T cK T0.Sm AK Bu Ck
 have IY:=QN (P:=P) (w:=w) (mg:=mg) (base:=base) T cK T0.RT E8
 have FQ:=MT (P:=P) (w:=w) (mg:=mg) (base:=base) T cK T0.ND
 have FR:=MU (P:=P) (w:=w) (mg:=mg) (base:=base) T cK T0.NE Aa FQ
 have GR:=Nl (P:=P) (w:=w) (mg:=mg) (base:=base) T cK T0.P7 JQ FR Aq RI DB HS Ad HU
 have B5:=MV (P:=P) (w:=w) (mg:=mg) (base:=base) T cK T0.NF Aa
 have HW:=Oq (P:=P) (w:=w) (mg:=mg) (base:=base) T cK T0.QZ B5 Ad Ar
 have GT:=Nm (P:=P) (w:=w) (mg:=mg) (base:=base) T cK T0.P8 B5 AK Ar
 have F4:=LP (P:=P) (w:=w) (mg:=mg) (base:=base) T cK T0.Ma AK Ad
 have GU:=Nn (P:=P) (w:=w) (mg:=mg) (base:=base) T cK T0.P9 Aa F4 Bj
 have LR:=Tl (P:=P) (w:=w) (mg:=mg) (base:=base) T cK T0.V8 Aa AK
 have HX:=Os (P:=P) (w:=w) (mg:=mg) (base:=base) T cK T0.Qa E6 DY DB
 have LS:=Tn (P:=P) (w:=w) (mg:=mg) (base:=base) T cK T0.V9 Aa AK Bj Ar
 have IW:=QO (P:=P) (w:=w) (mg:=mg) (base:=base) T cK T0.RU B5 AK Aq
 have G1:=N1 (P:=P) (w:=w) (mg:=mg) (base:=base) T cK cR T0.O4 Ah BF GR
 have F5:=LQ (P:=P) (w:=w) (mg:=mg) (base:=base) T cK T0.Mb Aa IU KE GS FT JR
 have GX:=Nq (P:=P) (w:=w) (mg:=mg) (base:=base) T cK cR T0.PB Ah HW
 have G2:=N3 (P:=P) (w:=w) (mg:=mg) (base:=base) T cK T0.O5 GT GU LR LS IW
 have HY:=Ot (P:=P) (w:=w) (mg:=mg) (base:=base) T cK cR T0.Qb Ah BF IX G1 F5 IY GX HX G2
 have GY:=Nr (P:=P) (w:=w) (mg:=mg) (base:=base) T cK cR T0.PD N4 F6 HY
 exact Tq T cK F3 N5 GY
end Pz
set_option hygiene false in
local macro_rules | `(tactic| subst_vars) => `(tactic| (intro _ _ _ _ _ _ us hl; (rcases us with _ | ⟨_, _ | ⟨_, _ | ⟨_, _ | ⟨_, _ | ⟨_, _ | ⟨_, us⟩⟩⟩⟩⟩⟩) <;> first | (exfalso; simp only [List.length_cons, List.length_nil] at hl; omega) | rfl))
set_option hygiene false in
local macro_rules | `(tactic| and_intros) => `(tactic| first | (refine' Pz.Y6 KX G ?a; (case a => k_is)) | (refine PySem.W.mg_none_of KX G ?_; k_is) | (refine' Pz.AA.mk KX G ?a ?l ?c ?k ?b; (case a => k_is); (case l => k_is); (case c => k_is); (case k => k_is); (case b => subst_vars)) | (refine' Pz.MethAt.mk ?a ?i ?l ?c ?k ?b; (case a => k_is); (case i => k_is); (case l => k_is); (case c => k_is); (case k => k_is); (case b => subst_vars)) | (refine' Pz.Ed.mk ?e ?m ?kc ?a ?i ?l ?c ?k ?b; (case e => refine PySem.W.mg_of KX G ?_; k_is); (case m => k_is); (case kc => k_is); (case a => k_is); (case i => k_is); (case l => k_is); (case c => k_is); (case k => k_is); (case b => subst_vars)) | (refine L2.Cls.mk ?pg ?hd ?po ?sa; (case pg => k_is); (case hd => k_is); (case po => k_is); (case sa => k_is)) | (unfold L2.B7; k_is))
open PySem PySem.W PyProof.Rows
set_option maxRecDepth 100000 in
set_option maxHeartbeats 0 in
theorem PySem.Challenge.cw_patchstores_s01_answers_holds : PySem.Challenge.rw_patchstores_s01_answers.Holds := by
 w_on;k_headS;(case hw=>exact ⟨[.list [.int 2,.int 0]],by decide+kernel,by decide+kernel⟩)
 k_fillS
 refine L2.Uj (r:=PySem.Challenge.rw_patchstores_s01_answers) (k:=17) (CX:=L2.CX0) (ps:=["calls"]) (sp:=Pz.KF) (by decide+kernel) rfl rfl ⟨rfl,by decide,by decide⟩ (fun w h Y=>PySem.W.kIn_of Y) ?F ?S (fun _ _ _ _ z=>z)
 case F=>
  intro w mg fa h Y KX G hmg
  refine' Pz.fin KX G hmg ?aK ?aB ?aR ?a3 ?l3 ?c3 ?k3 ?T
  (case aK=>k_is);(case aB=>k_is);(case aR=>k_is);(case a3=>k_is);(case l3=>k_is);(case c3=>k_is);(case k3=>k_is)
  case T=>
   constructor<;>and_intros
 case S=>
  intro K H xs a hO hwi hask hx
  cases hx with
  |cons h1 h2=>
   cases h2
   cases h1 with
   |lst hs ha=>
    have e:=L2.TZ a.1 _ ha
    subst e
    have q:((Codec.inLen 0 4200 a.1&&a.1.all (Codec.inInt (-1000000000000000000) 1000000000000000000))&&true)=true:=hwi
    rw[Bool.and_eq_true,Bool.and_eq_true]at q
    exact ⟨_,a.1,rfl,hs,Nat.le_trans (Codec.inNat_iff.mp q.1.1).2 (by decide),hask,fun H' p hp=>.lst (L2.SqL.of hp) (L2.TM _)⟩
#print axioms PySem.Challenge.cw_patchstores_s01_answers_holds
end
