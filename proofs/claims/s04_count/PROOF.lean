import PyProof.Rows.All
import Wide.All
import OpenK.AllK
import Wide.FinOn
import PyProof.EqAt
import PyProof.EqKinds
import PyProof.TupleCall
import KE.BitLaws
import Open.SpecLaws
import KE.OsHead
import KE.OsGo
import PyProof.ExcInit
import PyProof.RulesRaise
import PyProof.ExcArgsOwn
import PyProof.InstStore
import PyProof.InstStoreFacts
import PyProof.ExcAttrAll.Exception
import PyProof.ExcBaseAll.Exception
import PyProof.FactsAll.tuple_3
import PySem.Challenge.RW_quirecopies_s04_count
import QhCopiesSpec
import PyProof.Rows.SeqMore
set_option Elab.async false
set_option linter.all false
set_option maxRecDepth 100000
set_option maxHeartbeats 2000000
-- CHANGE: your row's module here, as the last of these rows
namespace L2
open PySem PySem.Spec PyProof.Rows
abbrev Key:=Sum Int Str
def keyIs:Key->Value->Bool
 | .inl k,v=>Value.isInt k v
 | .inr x,v=>Value.isStrOf x v
def keyH (w:World):Key->Int
 | .inl k=>hashInt k
 | .inr x=>hashStr w x
theorem keyIs_shape:∀{k:Key} {v:Value},keyIs k v=true->(∃i t,k=Sum.inl i/\v=Value.int i t)∨(∃x t,k=Sum.inr x/\v=Value.str x t)
 | .inl i,v,h=>by
  obtain ⟨t,e⟩:=Value.isInt_shape (k:=i) (v:=v) h
  exact .inl ⟨i,t,rfl,e⟩
 | .inr x,v,h=>by
  obtain ⟨t,e⟩:=Value.isStrOf_shape (x:=x) (v:=v) h
  exact .inr ⟨x,t,rfl,e⟩
theorem keyIs_int (i:Int) (t:Tok):keyIs (.inl i) (.int i t)=true:=by simp [keyIs,Value.isInt]
theorem keyIs_str (x:Str) (t:Tok):keyIs (.inr x) (.str x t)=true:=by simp [keyIs,Value.isStrOf]
theorem key_ll (a b:Int):decide ((Sum.inl a:Key)=Sum.inl b)=(a==b):=by
 by_cases e:a=b
 ·subst e;simp
 ·have h:¬(Sum.inl a:Key)=Sum.inl b:=fun q=>e (Sum.inl.inj q)
  rw [decide_eq_false h]
  exact (beq_eq_false_iff_ne.mpr e).symm
theorem key_rr (a b:Str):decide ((Sum.inr a:Key)=Sum.inr b)=decide (a=b):=by
 by_cases e:a=b
 ·subst e;simp
 ·have h:¬(Sum.inr a:Key)=Sum.inr b:=fun q=>e (Sum.inr.inj q)
  rw [decide_eq_false h,decide_eq_false e]
theorem key_lr (a:Int) (b:Str):decide ((Sum.inl a:Key)=Sum.inr b)=false:=decide_eq_false (fun q=>nomatch q)
theorem key_rl (a:Str) (b:Int):decide ((Sum.inr a:Key)=Sum.inl b)=false:=decide_eq_false (fun q=>nomatch q)
def mixKind (prog:Program) (w:World):PySem.KeyKind prog w Key where
 is:=keyIs
 hash:=keyH w
 inj:=fun v a b ha hb=>by
  rcases keyIs_shape ha with ⟨i,t,rfl,rfl⟩|⟨x,t,rfl,rfl⟩
  ·rcases keyIs_shape hb with ⟨j,u,rfl,e⟩|⟨y,u,rfl,e⟩
   ·injection e with e1 _;rw [e1]
   ·exact nomatch e
  ·rcases keyIs_shape hb with ⟨j,u,rfl,e⟩|⟨y,u,rfl,e⟩
   ·exact nomatch e
   ·injection e with e1 _;rw [e1]
 byValue:=fun k v h=>by
  rcases keyIs_shape h with ⟨i,t,rfl,rfl⟩|⟨x,t,rfl,rfl⟩<;>rfl
 pyHash:=fun hv h=>by
  rcases keyIs_shape hv with ⟨i,t,rfl,rfl⟩|⟨x,t,rfl,rfl⟩
  ·exact wpAny_pyHash_int h
  ·exact wpAny_pyHash_str h
 eqBool:=fun hu hv h=>by
  rcases keyIs_shape hu with ⟨i,t,rfl,rfl⟩|⟨x,t,rfl,rfl⟩
  ·rcases keyIs_shape hv with ⟨j,u,rfl,rfl⟩|⟨y,u,rfl,rfl⟩
   ·rw [key_ll] at h;exact wpAny_eqBool_int h
   ·rw [key_lr] at h;exact SeqAt.EqAt.int_str i t y u _ _ _ _ h
  ·rcases keyIs_shape hv with ⟨j,u,rfl,rfl⟩|⟨y,u,rfl,rfl⟩
   ·rw [key_rl] at h;exact SeqAt.EqAt.str_int x t j u _ _ _ _ h
   ·rw [key_rr] at h;exact wpAny_eqBool_str h
 «strs»:=fun k x t v h=>by
  rcases keyIs_shape h with ⟨i,u,rfl,e⟩|⟨y,u,rfl,e⟩
  ·exact nomatch e
  ·injection e with e1 _
   subst e1
   cases v<;>rfl
theorem mixKind_int (prog:Program) (w:World) (i:Int) (t:Tok):(mixKind prog w).is (.inl i) (.int i t)=true:=keyIs_int i t
theorem mixKind_str (prog:Program) (w:World) (x:Str) (t:Tok):(mixKind prog w).is (.inr x) (.str x t)=true:=keyIs_str x t
end L2
namespace L2
open PySem PySem.Spec PyProof.Rows
inductive V where
 |non|bl (b:Bool)|int (i:Int)|str (x:Str)|byt (b:Array UInt8)|flt (b:UInt64)|ref (a:Addr)|ty (n:String)
 deriving DecidableEq
def RelV:V->Value->Prop
 | .non,u=>u=Value.none
 | .bl b,u=>u=Value.bool b
 | .int i,u=>∃t,u=Value.int i t
 | .str x,u=>∃t,u=Value.str x t
 | .byt b,u=>∃t,u=Value.bytes b t
 | .flt b,u=>∃t,u=Value.float b t
 | .ref a,u=>u=Value.ref a
 | .ty n,u=>u=Value.type n
abbrev Vals:List V->List Value->Prop:=Paired RelV
theorem Vals.length {xs:List V} {us:List Value} (r:Vals xs us):xs.length=us.length:=Paired.length r
theorem Vals.get:∀{xs:List V} {us:List Value} {i:Nat} {x:V},Vals xs us->xs[i]? =some x->∃u,us[i]? =some u/\RelV x u
 |_,_,_,_,.nil,e=>by simp at e
 |_,_,0,_,.cons r _,e=>by simp at e;subst e;exact ⟨_,rfl,r⟩
 |_,_,i+1,x,.cons _ t,e=>by
  obtain ⟨u,h1,h2⟩:=Vals.get (i:=i) (x:=x) t (by simpa using e)
  exact ⟨u,by simpa using h1,h2⟩
theorem Vals.set {x:V} {u:Value} (r:RelV x u):∀{xs:List V} {us:List Value} (i:Nat),Vals xs us->Vals (xs.set i x) (us.set i u)
 |_,_,_,.nil=> .nil
 |_,_,0,.cons _ t=> .cons r t
 |_,_,i+1,.cons q t=> .cons q (Vals.set r i t)
theorem Vals.append:∀{xs ys:List V} {us ws:List Value},Vals xs us->Vals ys ws->Vals (xs++ys) (us++ws)
 |_,_,_,_,.nil,s=>s
 |_,_,_,_,.cons r t,s=> .cons r (Vals.append t s)
theorem Vals.take:∀{xs:List V} {us:List Value} (n:Nat),Vals xs us->Vals (xs.take n) (us.take n)
 |_,_,0,_=> .nil
 |_,_,_+1,.nil=> .nil
 |_,_,n+1,.cons r t=> .cons r (Vals.take n t)
theorem Vals.drop:∀{xs:List V} {us:List Value} (n:Nat),Vals xs us->Vals (xs.drop n) (us.drop n)
 |_,_,0,r=>r
 |_,_,_+1,.nil=> .nil
 |_,_,n+1,.cons _ t=>Vals.drop n t
def RelO:Option V->Option Value->Prop
 |some v,some u=>RelV v u
 |none,none=>True
 |_,_=>False
def KV {κ:Type}:List (κ×V)->List (κ×Value)->Prop:=Paired fun (p:κ×V) (q:κ×Value)=>p.1=q.1/\RelV p.2 q.2
def kV:Key->V
 | .inl i=> .int i
 | .inr x=> .str x
inductive HO where
 /-- a list -/
 | lst (xs : List V)
 /-- a tuple (never changes) -/
 | tup (xs : List V)
 /-- a dict whose keys are ints and texts; one whose keys are tuples of ints and texts (the empty one is both) -/
 | dK (kvs : List (Key × V)) | dT (kvs : List (List Key × V))
 /-- a set of ints: its members, its size -/
 | set (S : Int -> Bool) (n : Nat)
 /-- an instance of the class at C, its dict at dx, its attributes -/
 | ins (C dx : Addr) (fs : List (Str × V))
 /-- the dict of the instance at x -/
 | own (x : Addr)
 /-- the dict of an exception -/
 | xd (fs : List (Str × V))
 /-- a bound method, f of x -/
 | met (f x : Addr)
 /-- a range object lo, lo + 1, .. below hi -/
 | rng (lo hi : Int)
 /-- a thing that is known to the object (the script; a dict while a loop walks it): read, never written while it is so -/
 | frz (o : Obj) (u : HO)
 /-- a code object's table -/
 | tbl (ps : Array Value)
 /-- any other thing, by what is true of its one object (a def of one's own: SetO a S n := HO.ext fun h => ..) -/
 | ext (φ : Heap -> Prop)
abbrev Hp:=Addr->Option HO
def upd (H:Hp) (a:Addr) (o:HO):Hp:=fun b=>if b=a then some o else H b
theorem upd_same {H:Hp} {a:Addr} {o:HO}:upd H a o a=some o:=by unfold upd;rw [if_pos rfl]
theorem upd_ne {H:Hp} {a b:Addr} {o:HO} (h:b≠a):upd H a o b=H b:=by unfold upd;rw [if_neg h]
theorem upd_upd {H:Hp} {a:Addr} {o u:HO}:upd (upd H a o) a u=upd H a u:=by
 funext b;unfold upd;split<;>rfl
theorem ne_of {H:Hp} {a b:Addr} {o u:HO} (h:H a=some o) (h':H b=some u) (d:o≠u):a≠b:=by
 intro e;subst e;rw [h] at h';exact d (Option.some.inj h')
theorem ne_of_none {H:Hp} {a b:Addr} {o:HO} (h:H a=some o) (h':H b=none):a≠b:=by
 intro e;subst e;rw [h] at h';cases h'
section
variable (P:Program) (w:World)
def ObjOk (H:Hp) (h:Heap) (a:Addr):HO->Prop
 | .lst xs=>xs.length<=sizeLine/\∃(its:List Value) (n:Nat),Vals xs its/\h.get? a=some {cls:= .type "list",data:= .seq its.toArray n}
 | .tup xs=>xs.length<=sizeLine/\∃its:List Value,Vals xs its/\IsTup h a its.toArray
 | .dK kvs=>kvs.length<=sizeLine/\(a==sysModules)=false/\∃vs,KV kvs vs/\h.DictOf (mixKind P w) a vs
 | .dT kvs=>kvs.length<=sizeLine/\(a==sysModules)=false/\∃xs:List (List Key×Addr×Value),
   Paired (fun (p:List Key×V) (q:List Key×Addr×Value)=>p.1=q.1/\H q.2.1=some (.tup (p.1.map kV))/\RelV p.2 q.2.2) kvs xs/\
   ∃o es ep,h.get? a=some o/\o.ExactDict/\o.data= .dict es ep/\es.toList=xs.map (entryOfKey (tupleKind (mixKind P w)))/\(xs.map (·.1)).Nodup
 | .set S n=>h.SetOf (intKind P w) a S n
 | .ins C dx fs=>H dx=some (.own a)/\fs.length<=1000/\dx≠a/\h.get? a=some (PySem.W.instObj C dx)/\
   ∃mA,h.Ns1 dx mA/\(∀f,RelO (fs.lookup f) (mA f))/\PySem.Within mA (fs.map (·.1))
 | .own _=>∃o,h.get? a=some o
 | .xd fs=>∃mA,h.Ns1 a mA/\∀f,RelO (fs.lookup f) (mA f)
 | .rng lo hi=>∃t u v,h.get? a=some {cls:= .type "range",data:= .fields #[.int lo t,.int hi u,.int 1 v]}
 | .frz o u=>h.get? a=some o/\ObjOk H h a u
 | .tbl ps=>h.get? a=some {cls:= .none,data:= .fields ps}
 | .met f x=>h.get? a=some (PySem.W.methodObj (.ref f) (.ref x))
 | .ext φ=>φ h/\(∃o,h.get? a=some o)/\∀h1 h2:Heap,φ h1->(∀o,h1.get? a=some o->h2.get? a=some o)->φ h2
def HOk (H:Hp) (h:Heap):Prop:=∀a o,H a=some o->ObjOk P w H h a o
end
section
variable {P:Program} {w:World} {H H':Hp} {h h':Heap} {a:Addr} {o:HO}
theorem ObjOk.lt (x:ObjOk P w H h a o):a < h.objs.size:=by
 cases o with
 |lst xs=>obtain ⟨_,_,_,_,e⟩:=x;exact Heap.lt_size e
 |tup xs=>obtain ⟨_,_,_,p⟩:=x;exact p.lt
 |dK kvs=>obtain ⟨_,_,_,_,o,_,_,e,_⟩:=x;exact Heap.lt_size e
 |dT kvs=>obtain ⟨_,_,_,_,o,_,_,e,_⟩:=x;exact Heap.lt_size e
 |set S n=>obtain ⟨o,_,_,_,e,_⟩:=x;exact Heap.lt_size e
 |ins C dx fs=>obtain ⟨_,_,_,e,_⟩:=x;exact Heap.lt_size e
 |own y=>obtain ⟨_,e⟩:=x;exact Heap.lt_size e
 |xd fs=>obtain ⟨_,⟨_,_,_,e,_⟩,_⟩:=x;exact Heap.lt_size e
 |rng lo hi=>obtain ⟨_,_,_,e⟩:=x;exact Heap.lt_size e
 |frz ob u=>obtain ⟨e,_⟩:=x;exact Heap.lt_size e
 |tbl ps=>exact Heap.lt_size (show h.get? a=some _ from x)
 |met f y=>exact Heap.lt_size (show h.get? a=some _ from x)
 |ext φ=>obtain ⟨_,⟨_,e⟩,_⟩:=x;exact Heap.lt_size e
theorem Paired.mapP {α β:Type} {F G:α->β->Prop}:∀{l₁:List α} {l₂:List β},Paired F l₁ l₂->(∀a b,F a b->G a b)->Paired G l₁ l₂
 |_,_,.nil,_=> .nil
 |_,_,.cons r t,f=> .cons (f _ _ r) (Paired.mapP t f)
theorem ObjOk.stay (x:ObjOk P w H h a o) (k:∀b u,(b=a∨H b=some (.own a))->h.get? b=some u->h'.get? b=some u)
  (ho:∀b,H b=some (.own a)->H' b=some (.own a)) (ht:∀b xs,H b=some (.tup xs)->H' b=some (.tup xs)):ObjOk P w H' h' a o:=by
 induction o with
 |lst xs=>obtain ⟨z,its,n,r,e⟩:=x;exact ⟨z,its,n,r,k _ _ (.inl rfl) e⟩
 |tup xs=>obtain ⟨z,its,r,ob,e,c⟩:=x;exact ⟨z,its,r,ob,k _ _ (.inl rfl) e,c⟩
 |dK kvs=>obtain ⟨z,y,vs,r,ob,es,ep,e,c⟩:=x;exact ⟨z,y,vs,r,ob,es,ep,k _ _ (.inl rfl) e,c⟩
 |dT kvs=>
  obtain ⟨z,y,xs,r,ob,es,ep,e,c⟩:=x
  exact ⟨z,y,xs,Paired.mapP r fun p q z=>⟨z.1,ht _ _ z.2.1,z.2.2⟩,ob,es,ep,k _ _ (.inl rfl) e,c⟩
 |set S n=>obtain ⟨ob,es,ep,t,e,c⟩:=x;exact ⟨ob,es,ep,t,k _ _ (.inl rfl) e,c⟩
 |ins C dx fs=>
  obtain ⟨d,z,ne,e,mA,⟨od,es,ep,e2,c⟩,r⟩:=x
  exact ⟨ho _ d,z,ne,k _ _ (.inl rfl) e,mA,⟨od,es,ep,k _ _ (.inr d) e2,c⟩,r⟩
 |own y=>obtain ⟨ob,e⟩:=x;exact ⟨ob,k _ _ (.inl rfl) e⟩
 |xd fs=>obtain ⟨mA,⟨od,es,ep,e,c⟩,r⟩:=x;exact ⟨mA,⟨od,es,ep,k _ _ (.inl rfl) e,c⟩,r⟩
 |rng lo hi=>obtain ⟨t,u,v,e⟩:=x;exact ⟨t,u,v,k _ _ (.inl rfl) e⟩
 |frz ob u ih=>obtain ⟨e,q⟩:=x;exact ⟨k _ _ (.inl rfl) e,ih q⟩
 |tbl ps=>
  have e:h.get? a=some {cls:= .none,data:= .fields ps}:=x
  show h'.get? a=some {cls:= .none,data:= .fields ps}
  exact k a _ (.inl rfl) e
 |met f y=>
  have e:h.get? a=some (PySem.W.methodObj (.ref f) (.ref y)):=x
  show h'.get? a=some (PySem.W.methodObj (.ref f) (.ref y))
  exact k a _ (.inl rfl) e
 |ext φ=>obtain ⟨p,⟨o,e⟩,st⟩:=x;exact ⟨st _ _ p fun o q=>k _ _ (.inl rfl) q,⟨o,k _ _ (.inl rfl) e⟩,st⟩
theorem HOk.lt (x:HOk P w H h) (e:H a=some o):a < h.objs.size:=(x a o e).lt
theorem HOk.fresh (x:HOk P w H h) (e:h.objs.size<=a):H a=none:=by
 cases q:H a with
 |none=>rfl
 |some u=>exact absurd (Nat.lt_of_lt_of_le (x.lt q) e) (Nat.lt_irrefl _)
theorem HOk.kept (x:HOk P w H h) (k:∀b u,h.get? b=some u->h'.get? b=some u):HOk P w H h':=fun a o e=>
 (x a o e).stay (fun b u _ q=>k b u q) (fun _ q=>q) fun _ _ q=>q
theorem HOk.laid (x:HOk P w H h) (k:∀b u,h.get? b=some u->h'.get? b=some u) (hp:h.objs.size<=a) (new:ObjOk P w (upd H a o) h' a o):HOk P w (upd H a o) h':=fun b u e=>by
 have hn:=x.fresh hp
 by_cases hb:b=a
 ·subst hb;rw [upd_same] at e;cases e;exact new
 ·rw [upd_ne hb] at e
  exact (x b u e).stay (fun c v _ q=>k c v q) (fun c q=>by rw [upd_ne (ne_of_none q hn)];exact q) fun c xs q=>by rw [upd_ne (ne_of_none q hn)];exact q
end
def Rd (H:Hp) (a:Addr) (u:HO):Prop:=H a=some u∨∃o,H a=some (.frz o u)
theorem Rd.ok {P:Program} {w:World} {H:Hp} {h:Heap} {a:Addr} {u:HO} (r:Rd H a u) (x:HOk P w H h):ObjOk P w H h a u:=by
 rcases r with r|⟨o,r⟩
 ·exact x a u r
 ·obtain ⟨_,q⟩:=x a _ r
  exact q
def Mut:Option HO->Prop
 |some (.lst _)=>True
 |some (.dK _)=>True
 |some (.dT _)=>True
 |some (.set _ _)=>True
 |some (.ins _ _ _)=>True
 |some (.ext _)=>True
 |_=>False
section
variable {P:Program} {w:World} {H:Hp} {h h':Heap} {x e:Addr} {o':HO}
theorem HOk.write (ok:HOk P w H h) (mu:Mut (H x)) (he:e=x∨H e=some (.own x)) (k:∀b u,b≠e->h.get? b=some u->h'.get? b=some u) (heo:∃u,h'.get? e=some u)
  (new:ObjOk P w (upd H x o') h' x o'):HOk P w (upd H x o') h':=fun b u q=>by
 have nown:∀c y,H c=some (.own y)->c≠x:=fun c y r z=>by subst z;rw [r] at mu;exact mu
 have ntup:∀c xs,H c=some (.tup xs)->c≠x:=fun c xs r z=>by subst z;rw [r] at mu;exact mu
 by_cases hb:b=x
 ·subst hb;rw [upd_same] at q;cases q;exact new
 ·rw [upd_ne hb] at q
  by_cases hbe:b=e
  ·have q':H b=some (.own x):=by
    rcases he with z|z
    ·exact absurd (hbe.trans z) hb
    ·rw [hbe];exact z
   rw [q] at q';cases q'
   obtain ⟨v,hv⟩:=heo
   exact ⟨v,by rw [hbe];exact hv⟩
  ·refine (ok b u q).stay (fun c v hc r=>k c v ?_ r) (fun c r=>by rw [upd_ne (nown c b r)];exact r) fun c xs r=>by rw [upd_ne (ntup c xs r)];exact r
   rcases hc with rfl|hc
   ·exact hbe
   ·rintro rfl
    rcases he with z|z
    ·exact nown c b hc z
    ·rw [hc] at z;cases z;exact hb rfl
end
structure Un (fs ex:List Addr) (H H':Hp) (h h':Heap):Prop where
 keep:∀b o,h.get? b=some o->H b=none->b∉fs->b∉ex->h'.get? b=some o
 slot:∀b o,h.get? b=some o->H b=none->b∈fs->b∉ex->∃sl,h'.get? b=some {o with slots:=sl}
 free:∀b o,h.get? b=some o->H b=none->b∉ex->H' b=none
 there:∀b o,h.get? b=some o->b∉ex->∃o',h'.get? b=some o'
 tups:∀b xs,H b=some (.tup xs)->H' b=some (.tup xs)
 frzs:∀b o u,H b=some (.frz o u)->H' b=some (.frz o u)
 tbls:∀b ps,H b=some (.tbl ps)->∃more,H' b=some (.tbl (ps++more))
section
variable {fs fs' ex ex':List Addr} {H H1 H2:Hp} {h h1 h2 h':Heap} {a x e:Addr} {o:HO}
theorem Un.any (u:Un fs ex H H1 h h1) {b:Addr} {ob:Obj} (q:h.get? b=some ob) (n:H b=none) (hx:b∉ex):∃sl,h1.get? b=some {ob with slots:=sl}:=by
 by_cases hb:b∈fs
 ·exact u.slot b ob q n hb hx
 ·exact ⟨ob.slots,u.keep b ob q n hb hx⟩
theorem Un.trans (a:Un fs ex H H1 h h1) (b:Un fs ex H1 H2 h1 h2):Un fs ex H H2 h h2 where
 keep:=fun c ob q n hc hx=>b.keep c ob (a.keep c ob q n hc hx) (a.free c ob q n hx) hc hx
 slot:=fun c ob q n hc hx=>by
  obtain ⟨sl,e1⟩:=a.slot c ob q n hc hx
  obtain ⟨sl',e2⟩:=b.slot c _ e1 (a.free c ob q n hx) hc hx
  exact ⟨sl',e2⟩
 free:=fun c ob q n hx=>by
  obtain ⟨o',e1⟩:=a.there c ob q hx
  exact b.free c o' e1 (a.free c ob q n hx) hx
 there:=fun c ob q hx=>by
  obtain ⟨o',e1⟩:=a.there c ob q hx
  exact b.there c o' e1 hx
 tups:=fun c xs q=>b.tups c xs (a.tups c xs q)
 frzs:=fun c ob xs q=>b.frzs c ob xs (a.frzs c ob xs q)
 tbls:=fun c ps q=>by
  obtain ⟨m1,e1⟩:=a.tbls c ps q
  obtain ⟨m2,e2⟩:=b.tbls c _ e1
  exact ⟨m1++m2,by rw [e2,Array.append_assoc]⟩
theorem Un.kept (k:∀b u,h.get? b=some u->h'.get? b=some u):Un fs ex H H h h':=
 ⟨fun b ob q _ _ _=>k b ob q,fun b ob q _ _ _=>⟨ob.slots,k b ob q⟩,fun _ _ _ n _=>n,fun b ob q _=>⟨ob,k b ob q⟩,fun _ _ q=>q,fun _ _ _ q=>q,fun _ ps q=>⟨#[],by rw [q];simp⟩⟩
theorem Un.refl:Un fs ex H H h h:=Un.kept fun _ _ q=>q
theorem Un.laid (k:∀b u,h.get? b=some u->h'.get? b=some u) (hp:h.objs.size<=a) (hn:H a=none):Un fs ex H (upd H a o) h h' where
 keep:=fun b u q _ _ _=>k b u q
 slot:=fun b u q _ _ _=>⟨u.slots,k b u q⟩
 free:=fun b u q n _=>by rw [upd_ne (Nat.ne_of_lt (Nat.lt_of_lt_of_le (Heap.lt_size q) hp))];exact n
 there:=fun b u q _=>⟨u,k b u q⟩
 tups:=fun b xs q=>by rw [upd_ne (ne_of_none q hn)];exact q
 frzs:=fun b u xs q=>by rw [upd_ne (ne_of_none q hn)];exact q
 tbls:=fun b ps q=>⟨#[],by rw [upd_ne (ne_of_none q hn),q];simp⟩
theorem Un.write (mu:Mut (H x)) (he:e=x∨H e=some (.own x)) (k:∀b u,b≠e->h.get? b=some u->h'.get? b=some u) (heo:∃u,h'.get? e=some u):Un fs ex H (upd H x o) h h':=by
 have hx:∀b,H b=none->b≠x:=fun b n z=>by subst z;rw [n] at mu;exact mu
 have hb:∀b,H b=none->b≠e:=fun b n z=>by
  subst z
  rcases he with r|r
  ·exact hx b n r
  ·rw [n] at r;cases r
 have hm:∀b u,H b=some u->¬Mut (some u)->b≠x:=fun b u q nm z=>by subst z;rw [q] at mu;exact nm mu
 refine ⟨fun b u q n _ _=>k b u (hb b n) q,fun b u q n _ _=>⟨u.slots,k b u (hb b n) q⟩,fun b u q n _=>by rw [upd_ne (hx b n)];exact n,fun b u q _=>?_,
  fun b xs q=>by rw [upd_ne (hm b _ q fun z=>z)];exact q,fun b u xs q=>by rw [upd_ne (hm b _ q fun z=>z)];exact q,fun b ps q=>⟨#[],by rw [upd_ne (hm b _ q fun z=>z),q];simp⟩⟩
 by_cases hbe:b=e
 ·subst hbe;exact heo
 ·exact ⟨u,k b u hbe q⟩
end
def trk (h:Heap) (H:Hp):List Addr:=(List.range h.objs.size).filter fun a=>(H a).isSome
def hidT (h:Heap) (H:Hp):Heap:=PySem.W.hideAll h (trk h H)
theorem hidT_size (h:Heap) (H:Hp):(hidT h H).objs.size=h.objs.size:=PySem.W.hideAll_size _ _
theorem hidT_get {h:Heap} {H:Hp} {b:Addr} {o:Obj} (e:h.get? b=some o) (n:H b=none):(hidT h H).get? b=some o:=
 PySem.W.hideAll_get _ e fun hm=>by
  have q:(H b).isSome=true:=(List.mem_filter.mp hm).2
  rw [n] at q;simp at q
theorem of_hidT {h:Heap} {H:Hp} {b:Addr} {o:Obj} (e:(hidT h H).get? b=some o):h.get? b=some o/\H b=none:=by
 have e':h.get? b=some o:=PySem.W.of_hideAll (trk h H) e
 refine ⟨e',?_⟩
 cases q:H b with
 |none=>rfl
 |some x=>
  have hm:b∈trk h H:=List.mem_filter.mpr ⟨List.mem_range.mpr (Heap.lt_size e'),by simp [q]⟩
  have z:(hidT h H).get? b=none:=PySem.W.hideAll_none (trk h H) hm
  rw [z] at e;cases e
end L2
namespace L2
open PySem PySem.Spec PyProof.Rows
structure Mod (K:PySem.W.Frag) (mg:Str->Option Value) (base:Heap):Prop where
 kin:K.In base
 glob:base.Ns mainGlobals mg
 blt:∃mb,base.Ns builtinsNs mb/\∀x:Str,x≠ "__name__"->mb x=bootBuiltins x
 nolimit:base.NoLimit
structure Cx where
 prog:Program
 w:World
 K:PySem.W.Frag
 mg:Str->Option Value
 base:Heap
 A:Around
 N:List Str
 s_0:Shared
 H_0:Hp
 env:Env
 outer:List Env
 stack:List Env
 ex:List Addr
 fn:Str->Bool
 calm:Bool
 pn:List (Addr×Obj)
 xe:Value->Shared->Prop
def frs (l:List Env):List Addr:=l.filterMap (·.frame)
abbrev Cx.fs (X:Cx):List Addr:=frs X.outer
def Vis (sc:Scope) (x:Str):Prop:=sc.names.lookup x=some .local∨sc.names.lookup x=some .cell∨sc.names.lookup x=some .free
def Loc (sc:Scope) (x:Str):Prop:=sc.names.lookup x=some .local∨sc.names.lookup x=some .cell
def Look (env:Env) (h:Heap) (m:Str->Option Value) (x:Str) (u:Value):Prop:=
 (env.kindOf x=some .local/\m x=some u)∨((env.kindOf x=some .cell∨env.kindOf x=some .free)/\∃c,env.cells.lookup x=some c/\h.IsCell c (some u))
structure Cx.Ok (X:Cx):Prop where
 mod:Mod X.K X.mg X.base
 kind:X.env.scope.kind= .function
 glob:X.env.globals=mainGlobals
 blt:X.env.builtins=builtinsNs
 above:X.s_0.heap.objs.size<=X.env.locals
 inj:∀x y c,X.env.cells.lookup x=some c->X.env.cells.lookup y=some c->x=y
 has:∀x,(X.env.kindOf x=some .cell∨X.env.kindOf x=some .free)->∃c,X.env.cells.lookup x=some c
 cab:∀x c,X.fn x=true->X.env.cells.lookup x=some c->X.s_0.heap.objs.size<=c
 hd:X.calm=true->X.A.handled=none
 frames:X.A.frames=some X.stack
 stk:X.stack=X.outer∨(X.stack=X.env::X.outer/\X.env.frame=some X.env.locals)
 exf:∀b∈X.ex,b≠X.env.locals/\∀x c,X.env.cells.lookup x=some c->c≠b
 bs:∀b o,X.base.get? b=some o->X.s_0.heap.get? b=some o/\X.H_0 b=none
 bsz:X.base.objs.size<=X.s_0.heap.objs.size
 noex:∀b o,X.base.get? b=some o->b∉X.ex
 exfs:∀b∈X.ex,b∉X.fs
 funs:X.s_0.heap.FunFrames X.base X.outer
 frf:∀b∈X.fs,X.H_0 b=none
structure Inv (X:Cx) (pins:List (Addr×Obj)) (σ:List (Option V)) (H:Hp) (s:Shared):Prop where
 ok:X.Ok
 os:s.os=X.s_0.os
 bare:AllBare s.gens
 base:Un X.fs X.ex X.H_0 H X.s_0.heap s.heap
 loc:∃m,s.heap.Ns X.env.locals m/\∀(i:Nat) (x:Str) (v:V),X.N[i]? =some x->σ[i]? =some (some v)->Vis X.env.scope x->∃u,RelV v u/\Look X.env s.heap m x u
 cell:∀x c,X.env.cells.lookup x=some c->∃v,s.heap.IsCell c v
 free:H X.env.locals=none
 freeC:∀x c,X.env.cells.lookup x=some c->H c=none
 pin:∀p∈X.pn++pins,s.heap.get? p.1=some p.2/\H p.1=none/\p.1≠X.env.locals/\p.1∉X.fs/\∀v,p.2.data≠ .cell v
 hok:HOk X.prog X.w H s.heap
 len:σ.length=X.N.length
section
variable {X:Cx} {pins:List (Addr×Obj)} {σ:List (Option V)} {H H':Hp} {s:Shared} {h':Heap}
theorem Cx.Ok.nofr (ok:X.Ok) {b:Addr} {o:Obj} (e:X.base.get? b=some o):b∉X.fs:=fun hb=>by
 have:=(ok.funs.mem hb).1
 rw [e] at this;cases this
theorem Inv.bs (I:Inv X pins σ H s):∀b o,X.base.get? b=some o->s.heap.get? b=some o/\H b=none:=fun b o e=>
 ⟨I.base.keep b o (I.ok.bs b o e).1 (I.ok.bs b o e).2 (I.ok.nofr e) (I.ok.noex b o e),I.base.free b o (I.ok.bs b o e).1 (I.ok.bs b o e).2 (I.ok.noex b o e)⟩
theorem Inv.bk (I:Inv X pins σ H s):∀b o,X.base.get? b=some o->s.heap.get? b=some o:=fun b o e=>(I.bs b o e).1
theorem Inv.mod (I:Inv X pins σ H s):Mod X.K X.mg X.base:=I.ok.mod
theorem Inv.kIn (I:Inv X pins σ H s):X.K.In s.heap:=I.ok.mod.kin.keeps I.bk
theorem Inv.lt (I:Inv X pins σ H s):X.env.locals < s.heap.objs.size:=let ⟨_,hn,_⟩:=I.loc;hn.lt
theorem Inv.sz (I:Inv X pins σ H s):X.s_0.heap.objs.size<=s.heap.objs.size:=Nat.le_trans I.ok.above (Nat.le_of_lt I.lt)
theorem Inv.nofs (I:Inv X pins σ H s) {a:Addr} (h:s.heap.objs.size<=a):a∉X.fs:=fun hb=>by
 obtain ⟨_,o,ho,_⟩:=I.ok.funs.mem hb
 exact absurd (Nat.lt_of_lt_of_le (Heap.lt_size ho) (Nat.le_trans I.sz h)) (Nat.lt_irrefl _)
theorem Inv.cne (I:Inv X pins σ H s):∀x c,X.env.cells.lookup x=some c->c≠X.env.locals:=fun x c e z=>by
 obtain ⟨v,o,ho,hd⟩:=I.cell x c e
 obtain ⟨m,⟨o',es,ep,ho',hd',_⟩,_⟩:=I.loc
 rw [z,ho'] at ho;cases ho;rw [hd'] at hd;cases hd
theorem Inv.funs (I:Inv X pins σ H s):s.heap.FunFrames X.base X.outer:=by
 have all:∀(l:List Env),(∀b∈frs l,b∈X.fs)->X.s_0.heap.FunFrames X.base l->s.heap.FunFrames X.base l:=by
  intro l
  induction l with
  |nil=>intro _ _;trivial
  |cons env r ih=>
   intro hs hl
   obtain ⟨hk,⟨L,o,hf,hn,ho,hd⟩,hr⟩:=hl
   have hL:L∈X.fs:=hs L (by unfold frs;rw [List.filterMap_cons,hf];exact List.mem_cons_self)
   obtain ⟨sl,e⟩:=I.base.slot L o ho (I.ok.frf L hL) hL fun z=>I.ok.exfs L z hL
   exact ⟨hk,⟨L,_,hf,hn,e,hd⟩,ih (fun b hb=>hs b (by unfold frs;rw [List.filterMap_cons,hf];exact List.mem_cons_of_mem _ hb)) hr⟩
 exact all X.outer (fun _ hb=>hb) I.ok.funs
theorem Inv.stack (I:Inv X pins σ H s):s.heap.FunFrames X.base X.stack:=by
 rcases I.ok.stk with e|⟨e,hf⟩
 ·rw [e];exact I.funs
 ·rw [e]
  obtain ⟨m,hn,_⟩:=I.loc
  refine .cons (by rw [I.ok.kind];decide) hf hn ?_ I.funs
  exact Heap.get?_none_of_le (Nat.le_trans I.ok.bsz I.ok.above)
theorem Inv.stkSub (I:Inv X pins σ H s):∀b∈frs X.stack,b∈X.env.locals::X.fs:=fun b hb=>by
 rcases I.ok.stk with e|⟨e,hf⟩
 ·rw [e] at hb;exact List.mem_cons_of_mem _ hb
 ·rw [e] at hb
  unfold frs at hb
  rw [List.filterMap_cons,hf] at hb
  exact hb
theorem Inv.stkFree (I:Inv X pins σ H s):∀b∈frs X.stack,H b=none:=fun b hb=>by
 rcases List.mem_cons.mp (I.stkSub b hb) with e|hb
 ·rw [e];exact I.free
 ·obtain ⟨_,o,ho,_⟩:=I.ok.funs.mem hb
  exact I.base.free b o ho (I.ok.frf b hb) fun z=>I.ok.exfs b z hb
theorem Inv.step {g':Array GenState} {t':Nat} {d':Drawn} {ch:List Addr} (I:Inv X pins σ H s)
  (hch:∀b∈ch,(b∈X.ex∨X.s_0.heap.objs.size<=b)/\b≠X.env.locals/\(∀x c,X.env.cells.lookup x=some c->c≠b)/\∀p∈X.pn++pins,p.1≠b)
  (keep:∀b o,b≠X.env.locals->b∉X.fs->b∉ch->s.heap.get? b=some o->H b=none->h'.get? b=some o)
  (slot:∀b o,b≠X.env.locals->b∈X.fs->b∉ch->s.heap.get? b=some o->H b=none->∃sl,h'.get? b=some {o with slots:=sl}) (free:∀b o,b∉ch->s.heap.get? b=some o->H b=none->H' b=none)
  (there:∀b o,b∉ch->s.heap.get? b=some o->∃o',h'.get? b=some o')
  (tups:∀b xs,H b=some (.tup xs)->H' b=some (.tup xs)) (frzs:∀b o u,H b=some (.frz o u)->H' b=some (.frz o u)) (tbls:∀b ps,H b=some (.tbl ps)->∃more,H' b=some (.tbl (ps++more)))
  (ns:∀m,s.heap.Ns X.env.locals m->h'.Ns X.env.locals m) (hok:HOk X.prog X.w H' h') (hg:AllBare g'):
  Inv X pins σ H' {s with heap:=h',gens:=g',drawn:=d',toks:=t'}:=by
 have neL:∀b o,X.s_0.heap.get? b=some o->b≠X.env.locals:=fun b o e=>Nat.ne_of_lt (Nat.lt_of_lt_of_le (Heap.lt_size e) I.ok.above)
 have neC:∀b o,X.s_0.heap.get? b=some o->b∉X.ex->b∉ch:=fun b o e hx hb=>by
  rcases (hch b hb).1 with z|z
  ·exact hx z
  ·exact absurd (Nat.lt_of_lt_of_le (Heap.lt_size e) z) (Nat.lt_irrefl _)
 have cellK:∀x c,X.env.cells.lookup x=some c->∀v,s.heap.IsCell c v->h'.IsCell c v:=fun x c e v ⟨o,ho,hd⟩=>by
  have nch:c∉ch:=fun z=>(hch c z).2.2.1 x c e rfl
  by_cases hc:c∈X.fs
  ·obtain ⟨sl,q⟩:=slot c o (I.cne x c e) hc nch ho (I.freeC x c e)
   exact ⟨_,q,hd⟩
  ·exact ⟨o,keep c o (I.cne x c e) hc nch ho (I.freeC x c e),hd⟩
 refine ⟨I.ok,I.os,hg,⟨fun b o e n hb hx=>?_,fun b o e n hb hx=>?_,fun b o e n hx=>?_,fun b o e hx=>?_,fun b xs e=>tups b xs (I.base.tups b xs e),fun b o xs e=>frzs b o xs (I.base.frzs b o xs e),fun b ps e=>?_⟩,?_,fun x c e=>?_,?_,fun x c e=>?_,fun p hp=>?_,hok,I.len⟩
 ·exact keep b o (neL b o e) hb (neC b o e hx) (I.base.keep b o e n hb hx) (I.base.free b o e n hx)
 ·obtain ⟨sl,e1⟩:=I.base.slot b o e n hb hx
  obtain ⟨sl',e2⟩:=slot b _ (neL b o e) hb (neC b o e hx) e1 (I.base.free b o e n hx)
  exact ⟨sl',e2⟩
 ·obtain ⟨o',e1⟩:=I.base.there b o e hx
  exact free b o' (neC b o e hx) e1 (I.base.free b o e n hx)
 ·obtain ⟨o',e1⟩:=I.base.there b o e hx
  exact there b o' (neC b o e hx) e1
 ·obtain ⟨m1,e1⟩:=I.base.tbls b ps e
  obtain ⟨m2,e2⟩:=tbls b _ e1
  exact ⟨m1++m2,by rw [e2,Array.append_assoc]⟩
 ·obtain ⟨m,hn,hl⟩:=I.loc
  refine ⟨m,ns m hn,fun i x v e1 e2 e3=>?_⟩
  obtain ⟨u,r,l⟩:=hl i x v e1 e2 e3
  refine ⟨u,r,?_⟩
  rcases l with l|⟨k,c,e,z⟩
  ·exact .inl l
  ·exact .inr ⟨k,c,e,cellK x c e _ z⟩
 ·obtain ⟨v,z⟩:=I.cell x c e
  exact ⟨v,cellK x c e v z⟩
 ·obtain ⟨m,⟨o,_,_,ho,_⟩,_⟩:=I.loc
  exact free _ o (fun z=>(hch _ z).2.1 rfl) ho I.free
 ·obtain ⟨v,o,ho,hd⟩:=I.cell x c e
  exact free c o (fun z=>(hch c z).2.2.1 x c e rfl) ho (I.freeC x c e)
 ·obtain ⟨e,n,ne,nf,d⟩:=I.pin p hp
  have nch:p.1∉ch:=fun z=>(hch p.1 z).2.2.2 p hp rfl
  exact ⟨keep p.1 p.2 ne nf nch e n,free p.1 p.2 nch e n,ne,nf,d⟩
theorem Inv.un {t':Nat} (I:Inv X pins σ H s) (u:Un X.fs [] H H' s.heap h') (hok:HOk X.prog X.w H' h'):Inv X pins σ H' {s with heap:=h',toks:=t'}:=by
 obtain ⟨m,⟨o,es,ep,ho,r⟩,_⟩:=id I.loc
 obtain ⟨sl,hL⟩:=u.any ho I.free (by simp)
 exact I.step (g':=s.gens) (d':=s.drawn) (ch:= []) (fun _ z=>nomatch z) (fun b o _ hb _ e n=>u.keep b o e n hb (by simp)) (fun b o _ hb _ e n=>u.slot b o e n hb (by simp)) (fun b o _ e n=>u.free b o e n (by simp)) (fun b o _ e=>u.there b o e (by simp)) u.tups u.frzs u.tbls (fun m' hm=>by
  obtain ⟨o',es',ep',ho',r'⟩:=hm
  rw [ho] at ho';cases ho'
  exact ⟨_,es',ep',hL,r'⟩) hok I.bare
theorem Inv.call {g':Array GenState} {t':Nat} {d':Drawn} {ch:List Addr} (I:Inv X pins σ H s) (u:Un (frs X.stack) ch H H' s.heap h') (hok:HOk X.prog X.w H' h') (hg:AllBare g')
  (hch:∀b∈ch,(b∈X.ex∨X.s_0.heap.objs.size<=b)/\b≠X.env.locals/\(∀x c,X.env.cells.lookup x=some c->c≠b)/\∀p∈X.pn++pins,p.1≠b):
  Inv X pins σ H' {s with heap:=h',gens:=g',drawn:=d',toks:=t'}:=by
 obtain ⟨m,⟨o,es,ep,ho,r⟩,_⟩:=id I.loc
 obtain ⟨sl,hL⟩:=u.any ho I.free fun z=>(hch _ z).2.1 rfl
 exact I.step (ch:=ch) hch (fun b o hL hb hc e n=>u.keep b o e n (fun z=>(List.mem_cons.mp (I.stkSub b z)).elim hL hb) hc) (fun b o _ _ hc e n=>u.any e n hc) (fun b o hc e n=>u.free b o e n hc) (fun b o hc e=>u.there b o e hc) u.tups u.frzs u.tbls (fun m' hm=>by
  obtain ⟨o',es',ep',ho',r'⟩:=hm
  rw [ho] at ho';cases ho'
  exact ⟨_,es',ep',hL,r'⟩) hok hg
theorem Inv.turned {t':Nat} {it:Addr} (I:Inv X pins σ H s) (k:∀b o,b≠it->s.heap.get? b=some o->h'.get? b=some o) (hn:H it=none) (hL:it≠X.env.locals)
  (h1:it∈X.ex∨X.s_0.heap.objs.size<=it) (h2:∀x c,X.env.cells.lookup x=some c->c≠it) (h3:∀p∈X.pn++pins,p.1≠it):Inv X pins σ H {s with heap:=h',toks:=t'}:=by
 have nit:∀b u,H b=some u->b≠it:=fun b u e z=>by rw [z,hn] at e;cases e
 refine I.step (g':=s.gens) (d':=s.drawn) (ch:= [it]) (fun b hb=>?_) (fun b o _ _ hc e _=>k b o (fun z=>hc (by simp [z])) e) (fun b o _ _ hc e _=>⟨o.slots,k b o (fun z=>hc (by simp [z])) e⟩) (fun _ _ _ _ n=>n)
  (fun b o hc e=>⟨o,k b o (fun z=>hc (by simp [z])) e⟩) (fun _ _ e=>e) (fun _ _ _ e=>e) (fun b ps e=>⟨#[],by rw [e];simp⟩) (fun m hm=>?_) (fun b u e=>?_) I.bare
 ·have e:b=it:=by simpa using hb
  subst e
  exact ⟨h1,hL,h2,h3⟩
 ·obtain ⟨o,es,ep,ho,r⟩:=hm
  exact ⟨o,es,ep,k _ o (Ne.symm hL) ho,r⟩
 ·refine (I.hok b u e).stay (fun c v hc q=>k c v ?_ q) (fun _ q=>q) fun _ _ q=>q
  rcases hc with z|z
  ·rw [z];exact nit b u e
  ·exact nit c _ z
theorem Inv.tok (I:Inv X pins σ H s) (t:Nat):Inv X pins σ H {s with toks:=t}:=I.un (h':=s.heap) (t':=t) Un.refl I.hok
theorem Inv.kept {t':Nat} (I:Inv X pins σ H s) (k:∀b u,s.heap.get? b=some u->h'.get? b=some u):Inv X pins σ H {s with heap:=h',toks:=t'}:=I.un (Un.kept k) (I.hok.kept k)
theorem Inv.laid {a:Addr} {o:HO} {t':Nat} (I:Inv X pins σ H s) (k:∀b u,s.heap.get? b=some u->h'.get? b=some u) (hp:s.heap.objs.size<=a) (new:ObjOk X.prog X.w (upd H a o) h' a o):
  Inv X pins σ (upd H a o) {s with heap:=h',toks:=t'}:=I.un (Un.laid k hp (I.hok.fresh hp)) (I.hok.laid k hp new)
theorem Inv.write {x e:Addr} {o:HO} {t':Nat} (I:Inv X pins σ H s) (mu:Mut (H x)) (he:e=x∨H e=some (.own x)) (k:∀b u,b≠e->s.heap.get? b=some u->h'.get? b=some u) (heo:∃u,h'.get? e=some u)
  (new:ObjOk X.prog X.w (upd H x o) h' x o):Inv X pins σ (upd H x o) {s with heap:=h',toks:=t'}:=I.un (Un.write mu he k heo) (I.hok.write mu he k heo new)
theorem Inv.weak {σ':List (Option V)} (I:Inv X pins σ H s) (hl:σ'.length=σ.length) (w:∀(i:Nat) v,σ'[i]? =some (some v)->σ[i]? =some (some v)):Inv X pins σ' H s:=
 ⟨I.ok,I.os,I.bare,I.base,let ⟨m,hn,hl'⟩:=I.loc;⟨m,hn,fun i x v e1 e2 e3=>hl' i x v e1 (w i v e2) e3⟩,I.cell,I.free,I.freeC,I.pin,I.hok,hl.trans I.len⟩
theorem Inv.pins_of {pins':List (Addr×Obj)} (I:Inv X pins σ H s) (h:∀p∈pins',s.heap.get? p.1=some p.2/\H p.1=none/\p.1≠X.env.locals/\p.1∉X.fs/\∀v,p.2.data≠ .cell v):Inv X pins' σ H s:=
 ⟨I.ok,I.os,I.bare,I.base,I.loc,I.cell,I.free,I.freeC,fun p hp=>(List.mem_append.mp hp).elim (fun z=>I.pin p (List.mem_append_left _ z)) (h p),I.hok,I.len⟩
theorem nodup_ix {N:List Str} (hN:N.Nodup) {i j:Nat} {x:Str} (a:N[i]? =some x) (b:N[j]? =some x):i=j:=by
 obtain ⟨h1,e1⟩:=List.getElem?_eq_some_iff.mp a
 obtain ⟨h2,e2⟩:=List.getElem?_eq_some_iff.mp b
 exact (List.getElem_inj hN).mp (e1.trans e2.symm)
theorem store_ok2 {M:Model} {A:Around} {E:Value->Shared->Prop} {i:Nat} {x:Str} {v:V} {u:Value} {Q:Unit->Shared->Prop} (I:Inv X pins σ H s) (hN:X.N.Nodup) (hi:X.N[i]? =some x) (hx:Loc X.env.scope x) (r:RelV v u)
  (h:∀s',Inv X pins (σ.set i (some v)) H s'->(∃a,Heap.SameBut a s.heap s'.heap/\(a=X.env.locals∨X.env.cells.lookup x=some a))->Q () s') (hf:X.fn x=true∨X.env.scope.names.lookup x=some .local:=by first|exact .inl rfl|exact .inr rfl|assumption):wpAny M A (storeName X.env x u) Q E s:=by
 obtain ⟨m,hn,hl⟩:=id I.loc
 have hcls:(X.env.scope.kind== .class||(X.env.scope.kind== .module&&X.env.locals !=X.env.globals))=false:=by rw [I.ok.kind];rfl
 have hiσ:i < σ.length:=by rw [I.len];exact (List.getElem?_eq_some_iff.mp hi).1
 have cne:=I.cne
 have tracked:∀{a:Addr} {h':Heap},(∃o,s.heap.get? a=some o/\H a=none)->Heap.SameBut a s.heap h'->HOk X.prog X.w H h':=fun {a h'} ha hs b ob e=>by
  obtain ⟨_,_,hfree⟩:=ha
  refine (I.hok b ob e).stay (fun c w' hc q=>(hs.2 c ?_).trans q) (fun _ q=>q) fun _ _ q=>q
  rintro rfl
  rcases hc with rfl|hc
  ·rw [hfree] at e;cases e
  ·rw [hfree] at hc;cases hc
 rcases hx with hk|hk
 ·refine wpAny_storeName_local hk hn (fun h' hn' hs=>?_) hcls
  obtain ⟨oL,_,_,hoL,_⟩:=id hn
  refine h _ ⟨I.ok,I.os,I.bare,⟨fun b o e n hb hx=>?_,fun b o e n hb hx=>?_,I.base.free,fun b o e hx=>?_,I.base.tups,I.base.frzs,I.base.tbls⟩,⟨_,hn',fun j y v' e1 e2 e3=>?_⟩,fun y c e=>?_,I.free,I.freeC,fun p hp=>?_,tracked ⟨oL,hoL,I.free⟩ hs,by simpa using I.len⟩ ⟨_,hs,.inl rfl⟩
  ·exact (hs.2 b (Nat.ne_of_lt (Nat.lt_of_lt_of_le (Heap.lt_size e) I.ok.above))).trans (I.base.keep b o e n hb hx)
  ·obtain ⟨sl,e1⟩:=I.base.slot b o e n hb hx
   exact ⟨sl,(hs.2 b (Nat.ne_of_lt (Nat.lt_of_lt_of_le (Heap.lt_size e) I.ok.above))).trans e1⟩
  ·obtain ⟨o',e1⟩:=I.base.there b o e hx
   exact ⟨o',(hs.2 b (Nat.ne_of_lt (Nat.lt_of_lt_of_le (Heap.lt_size e) I.ok.above))).trans e1⟩
  ·by_cases hj:j=i
   ·subst hj
    rw [hi] at e1;cases e1
    rw [List.getElem?_set_self hiσ] at e2
    cases e2
    exact ⟨u,r,.inl ⟨hk,by simp⟩⟩
   ·rw [List.getElem?_set_ne (Ne.symm hj)] at e2
    obtain ⟨u',r',q⟩:=hl j y v' e1 e2 e3
    refine ⟨u',r',?_⟩
    rcases q with ⟨k,e⟩|⟨k,c,e,z⟩
    ·refine .inl ⟨k,?_⟩
     have:y≠x:=fun e=>hj (nodup_ix hN e1 (e▸hi))
     simp [this,e]
    ·exact .inr ⟨k,c,e,z.sameBut hs (cne y c e)⟩
  ·obtain ⟨w',z⟩:=I.cell y c e
   exact ⟨w',z.sameBut hs (cne y c e)⟩
  ·obtain ⟨e,n,ne,nf,d⟩:=I.pin p hp
   exact ⟨(hs.2 p.1 ne).trans e,n,ne,nf,d⟩
 ·have hfn:X.fn x=true:=by
   rcases hf with z|z
   ·exact z
   ·rw [z] at hk;cases hk
  obtain ⟨c,hc⟩:=I.ok.has x (.inl hk)
  obtain ⟨w',z⟩:=I.cell x c hc
  refine wpAny_storeName_cell I.ok.kind hk hc z (fun h' hc' hs=>?_)
  obtain ⟨oc,hoc,hocd⟩:=id z
  refine h {s with heap:=h'} ⟨I.ok,I.os,I.bare,⟨fun b o e n hb hx=>?_,fun b o e n hb hx=>?_,I.base.free,fun b o e hx=>?_,I.base.tups,I.base.frzs,I.base.tbls⟩,⟨m,hn.sameBut hs (Ne.symm (cne x c hc)),fun j y v' e1 e2 e3=>?_⟩,fun y c' e=>?_,I.free,I.freeC,fun p hp=>?_,tracked ⟨oc,hoc,I.freeC x c hc⟩ hs,by simpa using I.len⟩ ⟨c,hs,.inr hc⟩
  ·exact (hs.2 b (Nat.ne_of_lt (Nat.lt_of_lt_of_le (Heap.lt_size e) (I.ok.cab x c hfn hc)))).trans (I.base.keep b o e n hb hx)
  ·obtain ⟨sl,e1⟩:=I.base.slot b o e n hb hx
   exact ⟨sl,(hs.2 b (Nat.ne_of_lt (Nat.lt_of_lt_of_le (Heap.lt_size e) (I.ok.cab x c hfn hc)))).trans e1⟩
  ·obtain ⟨o',e1⟩:=I.base.there b o e hx
   exact ⟨o',(hs.2 b (Nat.ne_of_lt (Nat.lt_of_lt_of_le (Heap.lt_size e) (I.ok.cab x c hfn hc)))).trans e1⟩
  ·by_cases hj:j=i
   ·subst hj
    rw [hi] at e1;cases e1
    rw [List.getElem?_set_self hiσ] at e2
    cases e2
    exact ⟨u,r,.inr ⟨.inl hk,c,hc,hc'⟩⟩
   ·rw [List.getElem?_set_ne (Ne.symm hj)] at e2
    obtain ⟨u',r',q⟩:=hl j y v' e1 e2 e3
    refine ⟨u',r',?_⟩
    rcases q with q|⟨k,c',e,z'⟩
    ·exact .inl q
    ·refine .inr ⟨k,c',e,z'.sameBut hs ?_⟩
     rintro rfl
     exact hj (nodup_ix hN e1 (I.ok.inj _ _ _ e hc▸hi))
  ·by_cases hcc:c'=c
   ·subst hcc;exact ⟨_,hc'⟩
   ·obtain ⟨w2,z2⟩:=I.cell y c' e
    exact ⟨w2,z2.sameBut hs hcc⟩
  ·obtain ⟨e,n,ne,nf,d⟩:=I.pin p hp
   refine ⟨(hs.2 p.1 ?_).trans e,n,ne,nf,d⟩
   intro q
   rw [q,hoc] at e
   have q':oc=p.2:=Option.some.inj e
   exact d w' (by rw [←q'];exact hocd)
theorem store_ok {M:Model} {A:Around} {E:Value->Shared->Prop} {i:Nat} {x:Str} {v:V} {u:Value} {Q:Unit->Shared->Prop} (I:Inv X pins σ H s) (hN:X.N.Nodup) (hi:X.N[i]? =some x) (hx:Loc X.env.scope x) (r:RelV v u)
  (h:∀s',Inv X pins (σ.set i (some v)) H s'->Q () s') (hf:X.fn x=true∨X.env.scope.names.lookup x=some .local:=by first|exact .inl rfl|exact .inr rfl|assumption):wpAny M A (storeName X.env x u) Q E s:=
 store_ok2 I hN hi hx r (fun s' I' _=>h s' I') hf
theorem Inv.call' {s':Shared} {ch:List Addr} (I:Inv X pins σ H s) (ho:s'.os=s.os) (u:Un (frs X.stack) ch H H' s.heap s'.heap) (hok:HOk X.prog X.w H' s'.heap) (hg:AllBare s'.gens)
  (hch:∀b∈ch,(b∈X.ex∨X.s_0.heap.objs.size<=b)/\b≠X.env.locals/\(∀x c,X.env.cells.lookup x=some c->c≠b)/\∀p∈X.pn++pins,p.1≠b):Inv X pins σ H' s':=by
 obtain ⟨h',g',d',t',o'⟩:=s'
 have e:o'=s.os:=ho
 subst e
 exact I.call (g':=g') (t':=t') (d':=d') u hok hg hch
end
abbrev XK:=Value->Option Addr->Hp->Prop
abbrev St:=List (Option V)
abbrev VK:=V->Hp->Prop
abbrev TE:=St->Hp->VK->Prop
abbrev TT:=St->Hp->(Bool->Hp->Prop)->Prop
abbrev TA:=St->Hp->(List V->Hp->Prop)->Prop
structure Ends where
 nx:St->Hp->Prop
 rt:VK
 bk:St->Hp->Prop:=fun _ _=>False
 ct:St->Hp->Prop:=fun _ _=>False
abbrev TS:=Ends->St->Hp->Prop
def EP (X:Cx) (pins:List (Addr×Obj)) (σ:St) (Q:VK) (u:Value) (s':Shared):Prop:=∃v H',Inv X pins σ H' s'/\RelV v u/\Q v H'
def TP (X:Cx) (pins:List (Addr×Obj)) (σ:St) (Q:Bool->Hp->Prop) (b:Bool) (s':Shared):Prop:=∃H',Inv X pins σ H' s'/\Q b H'
def AP (X:Cx) (pins:List (Addr×Obj)) (σ:St) (Q:List V->Hp->Prop) (us:List Value) (s':Shared):Prop:=∃vs H',Inv X pins σ H' s'/\Vals vs us/\Q vs H'
def SP (X:Cx) (pins:List (Addr×Obj)) (D:Ends) (f:Flow) (s':Shared):Prop:=
 match f with
 | .next=>∃σ' H',Inv X pins σ' H' s'/\D.nx σ' H'
 | .brk=>∃σ' H',Inv X pins σ' H' s'/\D.bk σ' H'
 | .cont=>∃σ' H',Inv X pins σ' H' s'/\D.ct σ' H'
 | .ret u=>∃v σ' H',Inv X pins σ' H' s'/\RelV v u/\D.rt v H'
def PE (X:Cx) (e:Expr) (t:TE):Prop:=
 ∀(pins:List (Addr×Obj)) (s:Shared) (σ:St) (H:Hp) (Q:VK),Inv X pins σ H s->t σ H Q->wpAny (model X.prog X.w) X.A (eval e X.env) (EP X pins σ Q) X.xe s
def PT (X:Cx) (e:Expr) (t:TT):Prop:=
 ∀(pins:List (Addr×Obj)) (s:Shared) (σ:St) (H:Hp) (Q:Bool->Hp->Prop),Inv X pins σ H s->t σ H Q->wpAny (model X.prog X.w) X.A (isTrue e X.env (eval e X.env)) (TP X pins σ Q) X.xe s
def PW (X:Cx) (e:Expr) (t:TT):Prop:=
 ∀(whole:Sem Value) (pins:List (Addr×Obj)) (s:Shared) (σ:St) (H:Hp) (Q:Bool->Hp->Prop),Inv X pins σ H s->t σ H Q->wpAny (model X.prog X.w) X.A (isTrue e X.env whole) (TP X pins σ Q) X.xe s
theorem PW.pt {X:Cx} {e:Expr} {t:TT} (h:PW X e t):PT X e t:=h _
def PA (X:Cx) (es:List Expr) (t:TA):Prop:=
 ∀(pos:Pos) (pins:List (Addr×Obj)) (s:Shared) (σ:St) (H:Hp) (Q:List V->Hp->Prop),Inv X pins σ H s->t σ H Q->wpAny (model X.prog X.w) X.A (spliced (backTo pos (starEach es X.env))) (AP X pins σ Q) X.xe s
def PS (X:Cx) (st:Stmt) (t:TS):Prop:=
 ∀(pins:List (Addr×Obj)) (s:Shared) (σ:St) (H:Hp) (D:Ends),Inv X pins σ H s->t D σ H->wpAny (model X.prog X.w) X.A (exec st X.env) (SP X pins D) X.xe s
def PSs (X:Cx) (st:List Stmt) (t:TS):Prop:=
 ∀(pins:List (Addr×Obj)) (s:Shared) (σ:St) (H:Hp) (D:Ends),Inv X pins σ H s->t D σ H->wpAny (model X.prog X.w) X.A (execs st X.env) (SP X pins D) X.xe s
theorem thn {α:Type} {t:Sem α} {Q Q':α->Shared->Prop} {M:Model} {A:Around} {E:Value->Shared->Prop} {s:Shared} (h:wpAny M A t Q E s) (hQ:∀a s,Q a s->Q' a s):wpAny M A t Q' E s:=wpAny_mono h hQ fun _ _ x=>x
end L2
namespace L2
open PySem PySem.Spec PyProof.Rows
section
variable {X:Cx}
def tVar (i:Nat):TE:=fun σ H Q=>∃v,σ[i]? =some (some v)/\Q v H
def tC (v:V):TE:=fun _ H Q=>Q v H
theorem pe_var {i:Nat} {x:Str} {pos:Pos} (hN:X.N[i]? =some x) (hv:Vis X.env.scope x) (hd:(x==("__debug__":Str))=false:=by decide) (hcd:(x==("__classdict__":Str))=false:=by decide):PE X (.Name x pos) (tVar i):=by
 intro pins s σ H Q I h
 obtain ⟨v,e,h⟩:=h
 obtain ⟨m,hn,hl⟩:=I.loc
 obtain ⟨u,r,l⟩:=hl i x v hN e hv
 have fin:EP X pins σ Q u s:=⟨v,H,I,r,h⟩
 rcases l with ⟨hk,hm⟩|⟨hk,c,hc,hcell⟩
 ·exact wpAny_Name (wpAny_loadName_local I.ok.kind hk hn hm fin) hd
 ·rcases hk with hk|hk
  ·exact wpAny_Name (wpAny_loadName_cell I.ok.kind hk hc hcell fin) hd
  ·exact wpAny_Name (wpAny_loadName_free I.ok.kind hk hc hcell fin hcd) hd
theorem pe_int {i j pos}:PE X (.Constant (.int i) j pos) (tC (.int i)):=fun _ _ _ H _ I h=>wpAny_Constant_int ⟨.int i,H,I.tok _,⟨_,rfl⟩,h⟩
theorem pe_bl {b j pos}:PE X (.Constant (.bool b) j pos) (tC (.bl b)):=fun _ _ _ H _ I h=>Constant_bool ⟨.bl b,H,I,rfl,h⟩
theorem pe_non {j pos}:PE X (.Constant .none j pos) (tC .non):=fun _ _ _ H _ I h=>Constant_none ⟨.non,H,I,rfl,h⟩
def Gl (X:Cx) (x:Str):Prop:=X.env.kindOf x=some .globalImplicit
theorem ld_glob {E:Value->Shared->Prop} {pins:List (Addr×Obj)} {s:Shared} {σ:St} {H:Hp} {x:Str} {u:Value} {pos:Pos} {Q:Value->Shared->Prop} (I:Inv X pins σ H s) (hg:Gl X x) (hm:X.mg x=some u) (h:Q u s)
  (hd:(x==("__debug__":Str))=false:=by decide):wpAny (model X.prog X.w) X.A (eval (.Name x pos) X.env) Q E s:=
 Calls.Name_function_global I.ok.kind hg (Calls.loadGlobal_global (by rw [I.ok.glob];exact I.mod.glob.keeps I.bk) hm h) hd
theorem ld_blt {E:Value->Shared->Prop} {pins:List (Addr×Obj)} {s:Shared} {σ:St} {H:Hp} {x:Str} {u:Value} {pos:Pos} {Q:Value->Shared->Prop} (I:Inv X pins σ H s) (hg:Gl X x) (hm:X.mg x=none) (hv:bootBuiltins x=some u) (h:Q u s)
  (hn:x≠ "__name__":=by decide) (hd:(x==("__debug__":Str))=false:=by decide):wpAny (model X.prog X.w) X.A (eval (.Name x pos) X.env) Q E s:=by
 obtain ⟨mb,h1,h2⟩:=I.mod.blt
 exact Calls.Name_function_global I.ok.kind hg (Calls.loadGlobal_builtin (by rw [I.ok.glob];exact I.mod.glob.keeps I.bk) hm (by rw [I.ok.blt];exact h1.keeps I.bk) ((h2 x hn).trans hv) h) hd
theorem pe_glob {x:Str} {v:V} {u:Value} {pos:Pos} (hg:Gl X x) (hm:X.mg x=some u) (r:RelV v u) (hd:(x==("__debug__":Str))=false:=by decide):PE X (.Name x pos) (tC v):=
 fun _ _ _ H _ I h=>ld_glob I hg hm ⟨v,H,I,r,h⟩ hd
variable {a b:Expr} {ta tb:TE} {pos:Pos}
def PC (X:Cx) (op:CmpOp) (a b:Expr) (t:TE):Prop:=
 ∀(pins:List (Addr×Obj)) (s:Shared) (σ:St) (H:Hp) (Q:VK),Inv X pins σ H s->t σ H Q->
  wpAny (model X.prog X.w) X.A (eval a X.env) (fun v s₁=>wpAny (model X.prog X.w) X.A (eval b X.env) (fun u s₂=>wpAny (model X.prog X.w) X.A (compareOp op v u) (EP X pins σ Q) X.xe s₂) X.xe s₁) X.xe s
def tB (t:TE):TT:=fun σ H Q=>t σ H fun x H1=>∃c,x= .bl c/\Q c H1
theorem pt_cmp {op:CmpOp} {t:TE} (h:PC X op a b t) (h1:behindInMarks op b=false:=by first|exact nobehind _ (by decide) (by decide)|rfl):PT X (.Compare a [op] [b] pos) (tB t):=by
 intro pins s σ H Q I hw
 refine wpAny_isTrue_Compare1 (thn (h pins s σ H _ I hw) fun v s1 h1=>thn h1 fun u s2 h2=>thn h2 fun c s3 ⟨x,H1,I1,r1,q1⟩=>?_) h1
 obtain ⟨d,rfl,q⟩:=q1
 cases r1
 exact wpAny_truthy_bool ⟨H1,I1,q⟩
variable {tA tB':TT} {rest:List Expr}
def tAnd (t u:TT):TT:=fun σ H Q=>t σ H fun c H1=>if c=true then u σ H1 Q else Q false H1
def tOr (t u:TT):TT:=fun σ H Q=>t σ H fun c H1=>if c=true then Q true H1 else u σ H1 Q
def tNot (t:TT):TT:=fun σ H Q=>t σ H fun c H1=>Q (!c) H1
theorem pw_and1 (ha:PT X a tA):PW X (.BoolOp .And [a] pos) tA:=by
 intro wh pins s σ H Q I h
 refine isTrue_and (thn (ha pins s σ H Q I h) fun c s1 e=>?_)
 cases c with
 |true=>exact isTrue_and_nil e
 |false=>exact e
theorem pw_or1 (ha:PT X a tA):PW X (.BoolOp .Or [a] pos) tA:=by
 intro wh pins s σ H Q I h
 refine isTrue_or (thn (ha pins s σ H Q I h) fun c s1 e=>?_)
 cases c with
 |false=>exact isTrue_or_nil e
 |true=>exact e
theorem pw_and (ha:PT X a tA) (hb:PW X (.BoolOp .And (b::rest) pos) tB'):PW X (.BoolOp .And (a::b::rest) pos) (tAnd tA tB'):=by
 intro wh pins s σ H Q I h
 refine isTrue_and (thn (ha pins s σ H _ I h) fun c s1 ⟨H1,I1,q1⟩=>?_)
 cases c with
 |true=>exact hb wh pins s1 σ H1 Q I1 q1
 |false=>exact ⟨H1,I1,q1⟩
theorem pw_or (ha:PT X a tA) (hb:PW X (.BoolOp .Or (b::rest) pos) tB'):PW X (.BoolOp .Or (a::b::rest) pos) (tOr tA tB'):=by
 intro wh pins s σ H Q I h
 refine isTrue_or (thn (ha pins s σ H _ I h) fun c s1 ⟨H1,I1,q1⟩=>?_)
 cases c with
 |true=>exact ⟨H1,I1,q1⟩
 |false=>exact hb wh pins s1 σ H1 Q I1 q1
theorem pt_not (ha:PT X a tA):PT X (.UnaryOp .Not a pos) (tNot tA):=by
 intro pins s σ H Q I h
 exact isTrue_not (ha pins s σ H (fun c H1=>Q (!c) H1) I h)
def tAndV (ta tb:TE):TE:=fun σ H Q=>ta σ H fun x H1=>∃c,x= .bl c/\if c=true then tb σ H1 Q else Q (.bl false) H1
def tOrV (ta tb:TE):TE:=fun σ H Q=>ta σ H fun x H1=>∃c,x= .bl c/\if c=true then Q (.bl true) H1 else tb σ H1 Q
theorem pe_one {op} {t:TE} (h:PE X a t):PE X (.BoolOp op [a] pos) t:=fun pins s σ H Q I hw=>BoolOp_one (h pins s σ H Q I hw)
theorem pe_and (ha:PE X a ta) (hb:PE X (.BoolOp .And (b::rest) pos) tb):PE X (.BoolOp .And (a::b::rest) pos) (tAndV ta tb):=by
 intro pins s σ H Q I h
 refine BoolOp_and (thn (ha pins s σ H _ I h) fun v s1 ⟨x,H1,I1,r1,q1⟩=>?_)
 obtain ⟨c,rfl,q1⟩:=q1
 cases r1
 refine wpAny_truthy_bool ?_
 cases c with
 |true=>exact hb pins s1 σ H1 Q I1 q1
 |false=>exact ⟨.bl false,H1,I1,rfl,q1⟩
theorem pe_or (ha:PE X a ta) (hb:PE X (.BoolOp .Or (b::rest) pos) tb):PE X (.BoolOp .Or (a::b::rest) pos) (tOrV ta tb):=by
 intro pins s σ H Q I h
 refine BoolOp_or (thn (ha pins s σ H _ I h) fun v s1 ⟨x,H1,I1,r1,q1⟩=>?_)
 obtain ⟨c,rfl,q1⟩:=q1
 cases r1
 refine wpAny_truthy_bool ?_
 cases c with
 |false=>exact hb pins s1 σ H1 Q I1 q1
 |true=>exact ⟨.bl true,H1,I1,rfl,q1⟩
def tIf (t:TT) (ta tb:TE):TE:=fun σ H Q=>t σ H fun c H1=>if c=true then ta σ H1 Q else tb σ H1 Q
theorem pe_ifExp {c:Expr} (hc:PT X c tA) (ha:PE X a ta) (hb:PE X b tb):PE X (.IfExp c a b pos) (tIf tA ta tb):=by
 intro pins s σ H Q I h
 refine wpAny_IfExp (thn (hc pins s σ H _ I h) fun d s1 ⟨H1,I1,q1⟩=>?_)
 cases d with
 |true=>exact ha pins s1 σ H1 Q I1 q1
 |false=>exact hb pins s1 σ H1 Q I1 q1
end
end L2
namespace L2
open PySem PySem.Spec PyProof.Rows
def SqL (K:PySem.W.Frag) (H:Hp) (a:Addr) (xs:List V):Prop:=
 Rd H a (.lst xs)∨
  ∃(o:Obj) (its:Array Value) (n:Nat),K.lookup a=some o/\o.cls= .type "list"/\o.dict=none/\o.data= .seq its n/\its.size<=sizeLine/\Vals xs its.toList
def SqT (K:PySem.W.Frag) (H:Hp) (a:Addr) (xs:List V):Prop:=
 Rd H a (.tup xs)∨
  ∃(o:Obj) (its:Array Value) (n:Nat),K.lookup a=some o/\o.cls= .type "tuple"/\o.data= .seq its n/\its.size<=sizeLine/\Vals xs its.toList
def absV:Value->Option V
 | .none=>some .non
 | .bool b=>some (.bl b)
 | .int i _=>some (.int i)
 | .str x _=>some (.str x)
 | .bytes b _=>some (.byt b)
 | .float b _=>some (.flt b)
 | .ref a=>some (.ref a)
 | .type n=>some (.ty n)
 |_=>none
theorem RelV.abs {x:V} {u:Value} (r:RelV x u):absV u=some x:=by
 cases x with
 |non=>cases r;rfl
 |bl _=>cases r;rfl
 |int _=>obtain ⟨t,rfl⟩:=r;rfl
 |str _=>obtain ⟨t,rfl⟩:=r;rfl
 |byt _=>obtain ⟨t,rfl⟩:=r;rfl
 |flt _=>obtain ⟨t,rfl⟩:=r;rfl
 |ref _=>cases r;rfl
 |ty _=>cases r;rfl
theorem RelV.inj {x y:V} {u:Value} (r:RelV x u) (q:RelV y u):x=y:=Option.some.inj (r.abs.symm.trans q.abs)
theorem Vals.inj:∀{xs ys:List V} {us:List Value},Vals xs us->Vals ys us->xs=ys
 |_,_,_,.nil,.nil=>rfl
 |_,_,_,.cons r t,.cons r' t'=>by rw [r.inj r',Vals.inj t t']
section
variable {X:Cx} {pins:List (Addr×Obj)} {σ:St} {H:Hp} {s:Shared} {a:Addr} {xs ys:List V}
theorem SqL.of {K:PySem.W.Frag} (h:H a=some (.lst xs)):SqL K H a xs:= .inl (.inl h)
theorem Inv.list (I:Inv X pins σ H s) (h:SqL X.K H a xs):∃its:List Value,Vals xs its/\PlainL s.heap a its.toArray/\xs.length<=sizeLine:=by
 rcases h with h|⟨o,its,n,hk,hc,hd,hs,hz,r⟩
 ·obtain ⟨z,its,n,r,e⟩:=h.ok I.hok
  exact ⟨its,r,⟨_,n,e,rfl,rfl,rfl⟩,z⟩
 ·refine ⟨its.toList,r,⟨o,n,I.kIn a o hk,hc,hd,by simpa using hs⟩,?_⟩
  have e:=r.length
  simp only [Array.length_toList] at e
  omega
theorem Inv.tuple (I:Inv X pins σ H s) (h:SqT X.K H a xs):∃its:List Value,Vals xs its/\IsTup s.heap a its.toArray/\xs.length<=sizeLine:=by
 rcases h with h|⟨o,its,n,hk,hc,hs,hz,r⟩
 ·obtain ⟨z,its,r,p⟩:=h.ok I.hok
  exact ⟨its,r,p,z⟩
 ·refine ⟨its.toList,r,⟨o,I.kIn a o hk,hc,n,by simpa using hs⟩,?_⟩
  have e:=r.length
  simp only [Array.length_toList] at e
  omega
theorem Inv.list_inj (I:Inv X pins σ H s) (h:SqL X.K H a xs) (h':SqL X.K H a ys):xs=ys:=by
 obtain ⟨its,r,⟨o,n,e,_,_,d⟩,_⟩:=I.list h
 obtain ⟨its',r',⟨o',n',e',_,_,d'⟩,_⟩:=I.list h'
 rw [e] at e';cases e'
 rw [d] at d'
 injection d' with d1 _
 have:its=its':=by simpa using congrArg Array.toList d1
 subst this
 exact r.inj r'
end
abbrev Cx.wish (X:Cx) (E:Value->Shared->Prop):Cx:={X with xe:=E}
abbrev Cx.nox (X:Cx):Cx:=X.wish fun _ _=>False
theorem Cx.Ok.wish {X:Cx} (ok:X.Ok) (E:Value->Shared->Prop):(X.wish E).Ok:=
 ⟨ok.mod,ok.kind,ok.glob,ok.blt,ok.above,ok.inj,ok.has,ok.cab,ok.hd,ok.frames,ok.stk,ok.exf,ok.bs,ok.bsz,ok.noex,ok.exfs,ok.funs,ok.frf⟩
theorem Cx.Ok.unwish {X:Cx} {E:Value->Shared->Prop} (ok:(X.wish E).Ok):X.Ok:=
 ⟨ok.mod,ok.kind,ok.glob,ok.blt,ok.above,ok.inj,ok.has,ok.cab,ok.hd,ok.frames,ok.stk,ok.exf,ok.bs,ok.bsz,ok.noex,ok.exfs,ok.funs,ok.frf⟩
section
variable {X:Cx} {pins:List (Addr×Obj)} {σ:St} {H:Hp} {s:Shared} {E:Value->Shared->Prop}
theorem Inv.wish (I:Inv X pins σ H s) (E:Value->Shared->Prop):Inv (X.wish E) pins σ H s:=⟨I.ok.wish E,I.os,I.bare,I.base,I.loc,I.cell,I.free,I.freeC,I.pin,I.hok,I.len⟩
theorem Inv.unwish (I:Inv (X.wish E) pins σ H s):Inv X pins σ H s:=⟨I.ok.unwish,I.os,I.bare,I.base,I.loc,I.cell,I.free,I.freeC,I.pin,I.hok,I.len⟩
theorem SP.unwish {D:Ends} {f:Flow} {s':Shared} (h:SP (X.wish E) pins D f s'):SP X pins D f s':=by
 cases f with
 |next=>obtain ⟨σ',H',I,q⟩:=h;exact ⟨σ',H',I.unwish,q⟩
 |brk=>obtain ⟨σ',H',I,q⟩:=h;exact ⟨σ',H',I.unwish,q⟩
 |cont=>obtain ⟨σ',H',I,q⟩:=h;exact ⟨σ',H',I.unwish,q⟩
 |ret u=>obtain ⟨v,σ',H',I,r,q⟩:=h;exact ⟨v,σ',H',I.unwish,r,q⟩
theorem PSs.nox {st:List Stmt} {t:TS} (h:PSs X.nox st t):PSs X st t:=fun pins s σ H D I hw=>
 wpAny_mono (h pins s σ H D (I.wish _) hw) (fun _ _ q=>q.unwish) fun _ _ z=>False.elim z
end
section
variable {X:Cx} {st:Stmt} {rest:List Stmt} {t u:TS} {e:Expr} {te:TE} {pos:Pos}
def tNext:TS:=fun D σ H=>D.nx σ H
def tSeq (t u:TS):TS:=fun D σ H=>t {D with nx:=u D} σ H
theorem pss_nil:PSs X [] tNext:=fun _ _ σ H _ I h=>wpAny_execs_nil ⟨σ,H,I,h⟩
theorem pss_cons (h1:PS X st t) (h2:PSs X rest u):PSs X (st::rest) (tSeq t u):=by
 intro pins s σ H D I h
 refine wpAny_execs_cons (thn (h1 pins s σ H {D with nx:=u D} I h) fun f s1 q=>?_)
 cases f with
 |next=>
  obtain ⟨σ',H',I',q⟩:=q
  exact h2 pins s1 σ' H' D I' q
 |ret v=>exact q
 |brk=>exact q
 |cont=>exact q
theorem pss_one (h1:PS X st t):PSs X [st] t:=by
 intro pins s σ H D I h
 refine wpAny_execs_cons (thn (h1 pins s σ H D I h) fun f s1 q=>?_)
 cases f with
 |next=>exact wpAny_execs_nil q
 |ret v=>exact q
 |brk=>exact q
 |cont=>exact q
theorem Inv.quiet {pins:List (Addr×Obj)} {σ:St} {H:Hp} {s:Shared} (I:Inv X pins σ H s):interactive X.env=false:=by simp [interactive,I.ok.kind]
def tDrop (te:TE):TS:=fun D σ H=>te σ H fun _ H1=>D.nx σ H1
theorem ps_expr (he:PE X e te) (hs:swapsWith e none pos.line X.env=pure false:=by rfl):PS X (.Expr e pos) (tDrop te):=by
 intro pins s σ H D I h
 exact wpAny_Expr_any (thn (he pins s σ H _ I h) fun v s1 ⟨x,H1,I1,r1,q1⟩=>⟨σ,H1,I1,q1⟩) I.quiet hs
def tRet (te:TE):TS:=fun D σ H=>te σ H D.rt
theorem ps_ret (he:PE X e te):PS X (.Return (some e) pos) (tRet te):=by
 intro pins s σ H D I h
 exact wpAny_Return_some (thn (he pins s σ H _ I h) fun v s1 ⟨x,H1,I1,r1,q1⟩=>⟨x,σ,H1,I1,r1,q1⟩)
def tIfS (c:TT) (t u:TS):TS:=fun D σ H=>c σ H fun b H1=>if b=true then t D σ H1 else u D σ H1
theorem ps_if {c:Expr} {a b:List Stmt} {tc:TT} (hc:PT X c tc) (ha:PSs X a t) (hb:PSs X b u):PS X (.If c a b pos) (tIfS tc t u):=by
 intro pins s σ H D I h
 refine wpAny_If (thn (hc pins s σ H _ I h) fun d s1 ⟨H1,I1,q1⟩=>?_)
 cases d with
 |true=>exact ha pins s1 σ H1 D I1 q1
 |false=>exact hb pins s1 σ H1 D I1 q1
end
abbrev TG:=V->St->Hp->(St->Hp->Prop)->Prop
abbrev TGs:=List V->St->Hp->(St->Hp->Prop)->Prop
def PG (X:Cx) (target:Expr) (t:TG):Prop:=
 ∀(pins:List (Addr×Obj)) (s:Shared) (σ:St) (H:Hp) (v:V) (u:Value) (Q:St->Hp->Prop),Inv X pins σ H s->RelV v u->t v σ H Q->
  wpAny (model X.prog X.w) X.A (assign target X.env u) (fun _ s'=>∃σ' H',Inv X pins σ' H' s'/\Q σ' H') X.xe s
def PGs (X:Cx) (ts:List Expr) (t:TGs):Prop:=
 ∀(pins:List (Addr×Obj)) (s:Shared) (σ:St) (H:Hp) (vs:List V) (us:List Value) (Q:St->Hp->Prop),Inv X pins σ H s->Vals vs us->t vs σ H Q->
  wpAny (model X.prog X.w) X.A (assignInOrder ((assignEach ts X.env).map (·.2)) us) (fun _ s'=>∃σ' H',Inv X pins σ' H' s'/\Q σ' H') X.xe s
abbrev TSet:=V->V->V->Hp->(Hp->Prop)->Prop
def PSet (X:Cx) (t:TSet):Prop:=
 ∀(pins:List (Addr×Obj)) (s:Shared) (σ:St) (H:Hp) (o i v:V) (ov iv u:Value) (Q:Hp->Prop),Inv X pins σ H s->RelV o ov->RelV i iv->RelV v u->t o i v H Q->
  wpAny (model X.prog X.w) X.A (setItem ov iv u) (fun _ s'=>∃H',Inv X pins σ H' s'/\Q H') X.xe s
abbrev TIp:=V->V->Hp->VK->Prop
def PIp (X:Cx) (op:Operator) (t:TIp):Prop:=
 ∀(pins:List (Addr×Obj)) (s:Shared) (σ:St) (H:Hp) (x y:V) (v u:Value) (Q:VK),Inv X pins σ H s->RelV x v->RelV y u->t x y H Q->
  wpAny (model X.prog X.w) X.A (inplaceOp op v u) (EP X pins σ Q) X.xe s
section
variable {X:Cx} {pos:Pos}
def gName (i:Nat):TG:=fun v σ H Q=>Q (σ.set i (some v)) H
theorem pg_name {i:Nat} {x:Str} (hN:X.N.Nodup) (hi:X.N[i]? =some x) (hx:Loc X.env.scope x) (hf:X.fn x=true∨X.env.scope.names.lookup x=some .local:=by first|exact .inl rfl|exact .inr rfl|assumption):PG X (.Name x pos) (gName i):=by
 intro pins s σ H v u Q I r h
 exact wpAny_assign_Name (store_ok I hN hi hx r (fun s' I'=>⟨_,H,I',h⟩) hf)
def gNil:TGs:=fun vs σ H Q=>vs= []/\Q σ H
def gCons (t:TG) (u:TGs):TGs:=fun vs σ H Q=>∃v r,vs=v::r/\t v σ H fun σ' H'=>u r σ' H' Q
theorem pgs_nil:PGs X [] gNil:=by
 intro pins s σ H vs us Q I r h
 obtain ⟨e,h⟩:=h
 subst e
 cases r
 exact assignInOrder_nil ⟨σ,H,I,h⟩
theorem pgs_cons {e:Expr} {es:List Expr} {t:TG} {u:TGs} (h1:PG X e t) (h2:PGs X es u)
  (hs:(assignEach (e::es) X.env).map (·.2)=assign e X.env::(assignEach es X.env).map (·.2):=by rfl):PGs X (e::es) (gCons t u):=by
 intro pins s σ H vs us Q I r h
 obtain ⟨v,vr,e1,h⟩:=h
 subst e1
 cases r with
 |cons r rr=>
  rw [hs]
  refine assignInOrder_cons (thn (h1 pins s σ H _ _ _ I r h) fun _ s1 ⟨σ1,H1,I1,q1⟩=>?_)
  exact h2 pins s1 σ1 H1 _ _ Q I1 rr q1
def gTup (K:PySem.W.Frag) (n:Nat) (t:TGs):TG:=fun v σ H Q=>∃a xs,v= .ref a/\SqT K H a xs/\xs.length=n/\t xs σ H Q
theorem pg_tup {es:List Expr} {k:Nat} {t:TGs} {n:Nat} (hc:X.calm=true) (h:PGs X es t)
  (hn:(assignEach es X.env).length=n:=by rfl) (hst:(assignEach es X.env).findIdx? (·.1)=none:=by rfl):PG X (.Tuple es k pos) (gTup X.K n t):=by
 intro pins s σ H v u Q I r hw
 obtain ⟨a,xs,e1,hq,hl,hw⟩:=hw
 subst e1
 cases r
 obtain ⟨its,rv,ht,hz⟩:=I.tuple hq
 refine assign_Tuple_tuple (I.ok.hd hc) ht (by simp [hn,←hl,rv.length]) hst fun h' hx=>?_
 have I1:Inv X pins σ H {s with heap:=h'}:=I.kept (t':=s.toks) fun b o e=>hx b o (Nat.ne_of_lt (Heap.lt_size e)) e
 exact h pins _ σ H xs _ Q I1 (by simpa using rv) hw
def gSub (to ti:TE) (t:TSet):TG:=fun v σ H Q=>to σ H fun o H1=>ti σ H1 fun i H2=>t o i v H2 fun H3=>Q σ H3
theorem pg_sub {o i : Expr} {to ti : TE} {t : TSet} (ho : PE X o to) (hi : PE X i ti) (hs : PSet X t)
  (ha : ∀ v, assign (.Subscript o i pos) X.env v = (do
   let ov ← holding [v] (eval o X.env)
   let iv ← holding [v, ov] (eval i X.env)
   standAt pos
   holding [v, ov, iv] (setItem ov iv v)
   release [v, ov, iv] []) := by intro _; rfl) : PG X (.Subscript o i pos) (gSub to ti t) := by
 intro pins s σ H v u Q I r h
 rw [ha]
 refine wpAny_bind (wpAny_holding (thn (ho pins s σ H _ I h) fun ov s1 ⟨x, H1, I1, r1, q1⟩ => ?_))
 refine wpAny_bind (wpAny_holding (thn (hi pins s1 σ H1 _ I1 q1) fun iv s2 ⟨y, H2, I2, r2, q2⟩ => ?_))
 refine wpAny_bind (wpAny_standAt (wpAny_bind (wpAny_holding (thn (hs pins s2 σ H2 x y v ov iv u _ I2 r1 r2 r q2) fun _ s3 ⟨H3, I3, q3⟩ => ?_))))
 exact wpAny_release ⟨σ, H3, I3, q3⟩
def tAsg (te:TE) (g:TG):TS:=fun D σ H=>te σ H fun x H1=>g x σ H1 D.nx
theorem ps_asg {tg e:Expr} {te:TE} {g:TG} (he:PE X e te) (hg:PG X tg g) (hs:swapsWithSole [tg] e pos.line X.env=pure false:=by rfl) (hw:swappedStores [tg] e X.env=pure none:=by rfl)
  (h1:(assignEach [tg] X.env).map (·.2)= [assign tg X.env]:=by rfl):PS X (.Assign [tg] e pos) (tAsg te g):=by
 intro pins s σ H D I h
 refine wpAny_Assign_stores (thn (he pins s σ H _ I h) fun v s1 ⟨x,H1,I1,r1,q1⟩=>?_) hs hw
 rw [h1]
 exact thn (hg pins s1 σ H1 x v _ I1 r1 q1) fun _ s2 q=>q
theorem ps_set {i:Nat} {x:Str} {e:Expr} {te:TE} {pos':Pos} (hN:X.N.Nodup) (hi:X.N[i]? =some x) (hx:Loc X.env.scope x) (he:PE X e te) (hs:swapsWith e (some (.Name x pos')) pos.line X.env=pure false:=by rfl) (hf:X.fn x=true∨X.env.scope.names.lookup x=some .local:=by first|exact .inl rfl|exact .inr rfl|assumption):
  PS X (.Assign [.Name x pos'] e pos) (tAsg te (gName i)):=by
 intro pins s σ H D I h
 refine wpAny_Assign_Name (thn (he pins s σ H _ I h) fun v s1 ⟨y,H1,I1,r1,q1⟩=>?_) hs
 exact store_ok I1 hN hi hx r1 (fun s2 I2=>⟨_,H1,I2,q1⟩) hf
def tAug (i:Nat) (te:TE) (ti:TIp):TS:=fun D σ H=>∃x,σ[i]? =some (some x)/\te σ H fun y H1=>ti x y H1 fun z H2=>D.nx (σ.set i (some z)) H2
theorem ps_aug {i:Nat} {x:Str} {e:Expr} {te:TE} {op:Operator} {ti:TIp} {pos':Pos} (hN:X.N.Nodup) (hi:X.N[i]? =some x) (hx:Loc X.env.scope x) (he:PE X e te) (ho:PIp X op ti) (hf:X.fn x=true∨X.env.scope.names.lookup x=some .local:=by first|exact .inl rfl|exact .inr rfl|assumption):
  PS X (.AugAssign (.Name x pos') op e pos) (tAug i te ti):=by
 intro pins s σ H D I h
 obtain ⟨v,e1,h⟩:=h
 obtain ⟨m,hn,hl⟩:=I.loc
 have vis:Vis X.env.scope x:=by rcases hx with k|k;exact .inl k;exact .inr (.inl k)
 obtain ⟨u,r,l⟩:=hl i x v hi e1 vis
 refine wpAny_AugAssign_Name ?_
 have go:wpAny (model X.prog X.w) X.A (eval e X.env) (fun w s₂=>wpAny (model X.prog X.w) X.A (inplaceOp op u w) (fun r s₃=>wpAny (model X.prog X.w) X.A (storeName X.env x r) (fun _=>SP X pins D .next) X.xe s₃) X.xe s₂) X.xe s:=by
  refine thn (he pins s σ H _ I h) fun w s1 ⟨y,H1,I1,r1,q1⟩=>?_
  refine thn (ho pins s1 σ H1 v y u w _ I1 r r1 q1) fun z s2 ⟨zv,H2,I2,r2,q2⟩=>?_
  exact store_ok I2 hN hi hx r2 (fun s3 I3=>⟨_,H2,I3,q2⟩) hf
 rcases l with ⟨hk,hm⟩|⟨hk,c,hc,hcell⟩
 ·exact wpAny_loadName_local I.ok.kind hk hn hm go
 ·rcases hk with hk|hk
  ·exact wpAny_loadName_cell I.ok.kind hk hc hcell go
  ·rcases hx with k|k
   ·have:X.env.scope.names.lookup x=some .free:=hk
    rw [k] at this;cases this
   ·have:X.env.scope.names.lookup x=some .free:=hk
    rw [k] at this;cases this
def ipI (f:Int->Int->Int):TIp:=fun x y H Q=>∃i j,x= .int i/\y= .int j/\Q (.int (f i j)) H
theorem ip_add:PIp X .Add (ipI fun i j=>i+j):=by
 intro pins s σ H x y v u Q I r1 r2 h
 obtain ⟨i,j,e1,e2,q⟩:=h
 subst e1;subst e2
 obtain ⟨t,rfl⟩:=r1
 obtain ⟨t',rfl⟩:=r2
 exact iadd_int ⟨.int _,H,I.tok _,⟨_,rfl⟩,q⟩
theorem ip_sub:PIp X .Sub (ipI fun i j=>i - j):=by
 intro pins s σ H x y v u Q I r1 r2 h
 obtain ⟨i,j,e1,e2,q⟩:=h
 subst e1;subst e2
 obtain ⟨t,rfl⟩:=r1
 obtain ⟨t',rfl⟩:=r2
 exact isub_int ⟨.int _,H,I.tok _,⟨_,rfl⟩,q⟩
end
section
variable {X:Cx} {pos:Pos}
def tWhile (c:TT) (tb:TS):TS:=fun D σ H=>∃W:Nat->St->Hp->Prop,(∃m,W m σ H)/\∀m σ H,W m σ H->
 c σ H fun b H1=>if b=true then ∃N:St->Hp->Prop,(∀σ' H',N σ' H'->∃m',m' < m/\W m' σ' H')/\tb {D with nx:=N,ct:=N,bk:=D.nx} σ H1 else D.nx σ H1
theorem ps_while {c:Expr} {body:List Stmt} {tc:TT} {tb:TS} (hp:PassesOwn (model X.prog X.w) X.A X.env X.xe) (hc:PT X c tc) (hb:PSs X body tb):PS X (.While c body [] pos) (tWhile tc tb):=by
 intro pins s σ H D I h
 obtain ⟨W,⟨m0,w0⟩,turn⟩:=h
 refine wpAny_While (codeAny_whileLoop (fun n s'=>∃σ' H',Inv X pins σ' H' s'/\W n σ' H') ?_ m0 ⟨σ,H,I,w0⟩)
 rintro n s1 ⟨σ1,H1,I1,w1⟩
 refine wpAny_passesOwn hp (thn (hc pins s1 σ1 H1 _ I1 (turn n σ1 H1 w1)) fun b s2 ⟨H2,I2,q2⟩=>?_)
 cases b with
 |true=>
  obtain ⟨N,hN,q2⟩:=q2
  rw [if_pos rfl]
  refine wpAny_passesOwn hp (thn (hb pins s2 σ1 H2 _ I2 q2) fun f s3 q3=>?_)
  cases f with
  |next=>
   obtain ⟨σ3,H3,I3,n3⟩:=q3
   obtain ⟨m',hm,w3⟩:=hN σ3 H3 n3
   exact ⟨m',hm,σ3,H3,I3,w3⟩
  |cont=>
   obtain ⟨σ3,H3,I3,n3⟩:=q3
   obtain ⟨m',hm,w3⟩:=hN σ3 H3 n3
   exact ⟨m',hm,σ3,H3,I3,w3⟩
  |brk=>exact q3
  |ret v=>exact q3
 |false=>
  rw [if_neg Bool.false_ne_true]
  exact wpAny_execs_nil ⟨σ1,H2,I2,q2⟩
end
structure It where
 go:Nat->Hp->Prop
 yld:Nat->Hp->V->Hp->Prop
 stop:Nat->Hp->Prop
def FpOk (X:Cx) (pins:List (Addr×Obj)) (H:Hp) (b:Addr):Prop:=
 H b=none/\b≠X.env.locals/\b∉X.fs/\(b∈X.ex∨X.s_0.heap.objs.size<=b)/\(∀x c,X.env.cells.lookup x=some c->c≠b)/\∀p∈X.pn++pins,p.1≠b
theorem Inv.fpOk {X:Cx} {pins:List (Addr×Obj)} {σ:St} {H H':Hp} {s:Shared} {b:Addr} (I:Inv X pins σ H s) (hb:s.heap.objs.size<=b) (hn:H' b=none):FpOk X pins H' b:=by
 refine ⟨hn,Nat.ne_of_gt (Nat.lt_of_lt_of_le I.lt hb),I.nofs hb,.inr (Nat.le_trans I.sz hb),fun x c e z=>?_,fun p hp z=>?_⟩
 ·obtain ⟨v,q⟩:=I.cell x c e
  exact absurd (Nat.lt_of_lt_of_le q.lt (by rw [z];exact hb)) (Nat.lt_irrefl _)
 ·exact absurd (Nat.lt_of_lt_of_le (Heap.lt_size (I.pin p hp).1) (by rw [z];exact hb)) (Nat.lt_irrefl _)
structure Turn (P:Program) (w:World) (K:PySem.W.Frag) (tg:Expr) (J:It) (fp:List Addr) (it:Addr) (tn:Nat->Heap->Prop):Prop where
 mem:it∈fp
 obj:∀i h,tn i h->∀b∈fp,∃o,h.get? b=some o/\∀v,o.data≠ .cell v
 keep:∀i h h',tn i h->(∀b∈fp,∀o,h.get? b=some o->h'.get? b=some o)->tn i h'
 item:∀(X:Cx),X.prog=P->X.w=w->X.K=K->X.calm=true->∀(i:Nat) (pins:List (Addr×Obj)) (s:Shared) (σ:St) (H:Hp) (E:Value->Shared->Prop),Inv X pins σ H s->(∀b∈fp,FpOk X pins H b)->tn i s.heap->J.go i H->
  wpAny (model P w) X.A (pyNext (.ref it)) (fun r s1=>∃u,r=some u/\
   wpAny (model P w) X.A (letOwnedTupleGo tg (.ref it) u) (fun _ s2=>∃x H',Inv X pins σ H' s2/\RelV x u/\J.yld i H x H'/\tn (i+1) s2.heap/\∀b∈fp,H' b=none) E s1) E s
 done:∀(X:Cx),X.prog=P->X.w=w->X.K=K->X.calm=true->∀(i:Nat) (pins:List (Addr×Obj)) (s:Shared) (σ:St) (H:Hp) (E:Value->Shared->Prop),Inv X pins σ H s->(∀b∈fp,FpOk X pins H b)->tn i s.heap->J.stop i H->
  wpAny (model P w) X.A (pyNext (.ref it)) (fun r s1=>r=none/\Inv X pins σ H s1) E s
 self:∀(A:Around) (i:Nat) (s:Shared) (Q:Value->Shared->Prop) (E:Value->Shared->Prop),tn i s.heap->Q (.ref it) s->wpAny (model P w) A (pyIter (.ref it)) Q E s
abbrev TI:=St->Hp->(It->Hp->Prop)->Prop
def PIE (X:Cx) (pins:List (Addr×Obj)) (σ:St) (tg:Expr) (R:It->Hp->Prop) (itv:Value) (s2:Shared):Prop:=
 ∃(it:Addr) (fp:List Addr) (tn:Nat->Heap->Prop) (J:It) (H':Hp),itv= .ref it/\Inv X pins σ H' s2/\Turn X.prog X.w X.K tg J fp it tn/\tn 0 s2.heap/\(∀b∈fp,FpOk X pins H' b)/\R J H'
def PI (X:Cx) (tg iter:Expr) (wi:TI):Prop:=
 ∀(pins:List (Addr×Obj)) (s:Shared) (σ:St) (H:Hp) (R:It->Hp->Prop),Inv X pins σ H s->wi σ H R->
  wpAny (model X.prog X.w) X.A (eval iter X.env) (fun v s1=>wpAny (model X.prog X.w) X.A (pyIter v) (PIE X pins σ tg R) X.xe s1) X.xe s
theorem go_of {M : Model} {A : Around} {E : Value -> Shared -> Prop} {s : Shared} {tg : Expr} {it : Addr} {u : Value} {o : Obj} {n : String} {vs : Array Value} {Q : Unit -> Shared -> Prop} (ho : s.heap.get? it = some o) (hc : o.cls = .type n) (hd : o.data = .fields vs)
    (hn : ["enumerate", "zip", "dict_itemiterator", "dict_reverseitemiterator", "odict_iterator", "itertools.zip_longest", "itertools.pairwise"].contains n = false) (hQ : Q () s) : wpAny M A (letOwnedTupleGo tg (.ref it) u) Q E s := by
  unfold letOwnedTupleGo
  cases tg <;> first
    | exact wpAny_pure hQ
    | (cases u <;> first
        | exact wpAny_pure hQ
        | (refine wpAny_bind (wpAny_load ho ?_)
           rw [hc, hd]
           show wpAny M A (if (["enumerate", "zip", "dict_itemiterator", "dict_reverseitemiterator", "odict_iterator", "itertools.zip_longest", "itertools.pairwise"].contains n && vs[0]? == some (rawInt _)) = true then _ else _) Q E s
           rw [if_neg (by intro h; rw [hn, Bool.false_and] at h; cases h)]
           exact wpAny_pure hQ))
def Itl (K:PySem.W.Frag) (a:Addr):It:=
 ⟨fun i H=>∃xs x,SqL K H a xs/\xs[i]? =some x,fun i H x H'=>H'=H/\∀xs,SqL K H a xs->xs[i]? =some x,fun i H=>∃xs,SqL K H a xs/\xs.length<=i⟩
def Itr (lo:Int) (n:Nat):It:=⟨fun i _=>i < n,fun i H x H'=>H'=H/\x= .int (lo+i),fun i _=>n<=i⟩
theorem turn_list {P:Program} {w:World} {K:PySem.W.Frag} {tg:Expr} (a it:Addr):Turn P w K tg (Itl K a) [it] it (fun i h=>h.IsListIter it a i) where
 mem:=by simp
 obj:=fun i h st b hb=>by
  have e:b=it:=by simpa using hb
  subst e
  obtain ⟨o,e,c,d⟩:=st
  exact ⟨o,e,fun v z=>by rw [d] at z;cases z⟩
 keep:=fun i h h' st k=>st.at fun o e=>k it (by simp) o e
 item:=by
  intro X hP hw hK hc i pins s σ H E I hf st hg
  subst hP hw hK
  obtain ⟨xs,x,hq,hx⟩:=hg
  obtain ⟨its,rv,p,hz⟩:=I.list hq
  obtain ⟨u,hu,ru⟩:=rv.get hx
  obtain ⟨f0,f1,f2,f3,f4,f5⟩:=hf it (by simp)
  refine wpAny_pyNext_list_item st p.isList (x:=u) (by simpa using hu) fun h' st' sb=>?_
  have I1:Inv X pins σ H {s with heap:=h'}:=I.turned (t':=s.toks) (fun b o hb e=>(sb.2 b hb).trans e) f0 f1 f3 f4 f5
  obtain ⟨o,e,c,d⟩:=id st'
  exact ⟨u,rfl,go_of (s:={s with heap:=h'}) e c d (by decide) ⟨x,H,I1,ru,⟨rfl,fun ys hy=>by rw [I.list_inj hy hq];exact hx⟩,st',fun b hb=>(hf b hb).1⟩⟩
 done:=by
  intro X hP hw hK hc i pins s σ H E I hf st hg
  subst hP hw hK
  obtain ⟨xs,hq,hx⟩:=hg
  obtain ⟨its,rv,p,hz⟩:=I.list hq
  obtain ⟨f0,f1,f2,f3,f4,f5⟩:=hf it (by simp)
  have hl:=rv.length
  exact wpAny_pyNext_list_end (I.ok.hd hc) st p.isList (by simp;omega) fun h' eb=>⟨rfl,I.turned (t':=s.toks) (fun b o hb e=>eb b o hb e) f0 f1 f3 f4 f5⟩
 self:=fun _ _ _ _ _ st h=>wpAny_pyIter_listiter st h
theorem turn_range {P:Program} {w:World} {K:PySem.W.Frag} {tg:Expr} (it:Addr) (lo:Int) (n:Nat):Turn P w K tg (Itr lo n) [it] it (fun i h=>IsRangeIter h it (lo+(i:Nat)*1) ((n:Int) - (i:Nat)) 1) where
 mem:=by simp
 obj:=fun i h st b hb=>by
  have e:b=it:=by simpa using hb
  subst e
  exact ⟨_,st,fun v z=>by
   have z':Data.fields _=Data.cell v:=z
   cases z'⟩
 keep:=fun i h h' st k=>k it (by simp) _ st
 item:=by
  intro X hP hw hK hc i pins s σ H E I hf st hg
  subst hP hw hK
  obtain ⟨f0,f1,f2,f3,f4,f5⟩:=hf it (by simp)
  have W:=Walks.range (prog:=X.prog) (w:=X.w) (I.ok.hd hc) it lo 1 n
  refine W.item i s _ _ hg st fun v h' tk hv st' kk=>?_
  obtain ⟨t,rfl⟩:=hv
  have I1:Inv X pins σ H {s with heap:=h',toks:=tk}:=I.turned (fun b o hb e=>kk b o (by simpa using hb) e) f0 f1 f3 f4 f5
  refine ⟨_,rfl,go_of (s:={s with heap:=h',toks:=tk}) (n:="range_iterator") st' rfl rfl (by decide) ⟨.int (lo+i),H,I1,⟨t,?_⟩,⟨rfl,rfl⟩,st',fun b hb=>(hf b hb).1⟩⟩
  rw [Int.mul_one]
 done:=by
  intro X hP hw hK hc i pins s σ H E I hf st hg
  subst hP hw hK
  obtain ⟨f0,f1,f2,f3,f4,f5⟩:=hf it (by simp)
  exact wpAny_pyNext_range_end (I.ok.hd hc) st (by have:n<=i:=hg;omega) fun h' eb=>⟨rfl,I.turned (t':=s.toks) (fun b o hb e=>eb b o hb e) f0 f1 f3 f4 f5⟩
 self:=fun _ _ _ _ _ st h=>wpAny_pyIter_rangeiter st h
end L2
namespace L2
open PySem PySem.Spec PyProof.Rows
section
variable {X:Cx} {tg:Expr}
def iList (K:PySem.W.Frag) (tl:TE):TI:=fun σ H R=>tl σ H fun x H1=>∃a,x= .ref a/\(∃xs,SqL K H1 a xs)/\R (Itl K a) H1
theorem pi_list {l:Expr} {tl:TE} (hl:PE X l tl):PI X tg l (iList X.K tl):=by
 intro pins s σ H R I h
 refine thn (hl pins s σ H _ I h) fun v s1 ⟨x,H1,I1,r1,q1⟩=>?_
 obtain ⟨a,e,⟨xs,hq⟩,q⟩:=q1
 subst e
 cases r1
 obtain ⟨its,rv,p,hz⟩:=I1.list hq
 refine wpAny_pyIter_list p.isList ?_
 refine ⟨s1.heap.objs.size,[s1.heap.objs.size],_,_,H1,rfl,I1.kept (t':=s1.toks) fun b o e=>Heap.get?_push_of_some _ e,turn_list a _,⟨_,Heap.get?_push_size _ rfl,rfl,rfl⟩,fun b hb=>?_,q⟩
 have e:b=s1.heap.objs.size:=by simpa using hb
 subst e
 exact I1.fpOk (Nat.le_refl _) (I1.hok.fresh (Nat.le_refl _))
theorem range_it {pins:List (Addr×Obj)} {σ:St} {H:Hp} {s:Shared} {R:It->Hp->Prop} {E:Value->Shared->Prop} {lo hi:Int} {t u v:Tok} {tk:Nat} (I:Inv X pins σ H s) (h1: -(2 ^ 62)<=lo) (h2:lo < 2 ^ 62) (h3: -(2 ^ 62)<=hi) (h4:hi < 2 ^ 62)
  (q:R (Itr lo (hi - lo).toNat) H):wpAny (model X.prog X.w) X.A (pyIter (.ref s.heap.objs.size)) (PIE X pins σ tg R) E {s with heap:=s.heap.push {cls:= .type "range",data:= .fields #[.int lo t,.int hi u,.int 1 v]},toks:=tk}:=by
 refine wpAny_pyIter_range (IsRange.new ..) (small_one h1 h2 h3 h4) ?_
 have I1:Inv X pins σ H {s with heap:=s.heap.push {cls:= .type "range",data:= .fields #[.int lo t,.int hi u,.int 1 v]},toks:=tk}:=I.kept fun b o e=>Heap.get?_push_of_some _ e
 refine ⟨(s.heap.push {cls:= .type "range",data:= .fields #[.int lo t,.int hi u,.int 1 v]}).objs.size,[(s.heap.push {cls:= .type "range",data:= .fields #[.int lo t,.int hi u,.int 1 v]}).objs.size],_,_,H,rfl,
  I1.kept (t':=tk) fun b o e=>Heap.get?_push_of_some _ e,turn_range _ lo (hi - lo).toNat,?_,fun b hb=>?_,q⟩
 ·have e1:lo+((0:Nat):Int)*1=lo:=by simp
  have e2:(((hi - lo).toNat:Nat):Int) - ((0:Nat):Int)=Builtin.Range.rangeSize lo hi 1:=by rw [rangeSize_one];split<;>omega
  show IsRangeIter _ _ (lo+((0:Nat):Int)*1) ((((hi - lo).toNat:Nat):Int) - ((0:Nat):Int)) 1
  rw [e1,e2]
  exact Heap.get?_push_size _ rfl
 ·have e:b=(s.heap.push {cls:= .type "range",data:= .fields #[.int lo t,.int hi u,.int 1 v]}).objs.size:=by simpa using hb
  subst e
  exact I1.fpOk (Nat.le_refl _) (I1.hok.fresh (Nat.le_refl _))
def iRng1 (ta:TA):TI:=fun σ H R=>ta σ H fun vs H1=>∃j:Int,vs= [.int j]/\-(2 ^ 62)<=j/\j < 2 ^ 62/\R (Itr 0 j.toNat) H1
def iRng2 (ta:TA):TI:=fun σ H R=>ta σ H fun vs H1=>∃i j:Int,vs= [.int i,.int j]/\(-(2 ^ 62)<=i/\i < 2 ^ 62/\-(2 ^ 62)<=j/\j < 2 ^ 62)/\R (Itr i (j - i).toNat) H1
theorem pi_range1 {a:Expr} {ta:TA} {p pos:Pos} (hg:Gl X "range") (hm:X.mg "range"=none) (ha:PA X [a] ta) (hs:starEach [a] X.env= [(false,eval a X.env)]:=by rfl):PI X tg (.Call (.Name "range" p) [a] [] pos) (iRng1 ta):=by
 intro pins s σ H R I h
 refine Call_ (ld_blt I hg hm boot_range (PyProof.Rows.callWith_type1 (thn (ha pos pins s σ H _ I h) fun us s1 ⟨vs,H1,I1,r1,q1⟩=>?_) hs rfl))
 obtain ⟨j,e,q1,q2,q⟩:=q1
 subst e
 cases r1 with
 |cons r rr=>
  cases rr
  obtain ⟨t,rfl⟩:=r
  exact call_range_1 (range_it I1 (by omega) (by omega) q1 q2 (by simpa using q))
theorem pi_range2 {a b:Expr} {ta:TA} {p pos:Pos} (hg:Gl X "range") (hm:X.mg "range"=none) (ha:PA X [a,b] ta) (hs:starEach [a,b] X.env= [(false,eval a X.env),(false,eval b X.env)]:=by rfl) (hs2:starEach [b] X.env= [(false,eval b X.env)]:=by rfl):
  PI X tg (.Call (.Name "range" p) [a,b] [] pos) (iRng2 ta):=by
 intro pins s σ H R I h
 refine Call_ (ld_blt I hg hm boot_range (PyProof.Rows.callWith_type1 (thn (ha pos pins s σ H _ I h) fun us s1 ⟨vs,H1,I1,r1,q1⟩=>?_) (by rw [hs,hs2]) (by rw [hs2];rfl)))
 obtain ⟨i,j,e,⟨q1,q2,q3,q4⟩,q⟩:=q1
 subst e
 cases r1 with
 |cons r rr=>
  cases rr with
  |cons r' rr=>
   cases rr
   obtain ⟨t,rfl⟩:=r
   obtain ⟨t',rfl⟩:=r'
   exact call_range_2 (range_it I1 q1 q2 q3 q4 q)
def tFor (wi:TI) (g:TG) (tb:TS):TS:=fun D σ H=>wi σ H fun J H1=>∃W:Nat->Nat->St->Hp->Prop,(∃m,W 0 m σ H1)/\∀i m σ H,W i m σ H->
 (J.stop i H/\D.nx σ H)∨(J.go i H/\∃N:St->Hp->Prop,(∀σ' H',N σ' H'->∃m',m' < m/\W (i+1) m' σ' H')/\∀x H',J.yld i H x H'->g x σ H' fun σ2 H2=>tb {D with nx:=N,ct:=N,bk:=D.nx} σ2 H2)
def pinsAt (fp:List Addr) (h:Heap):List (Addr×Obj):=fp.filterMap fun b=>(h.get? b).map fun o=>(b,o)
theorem mem_pinsAt {fp:List Addr} {h:Heap} {b:Addr} {o:Obj} (hb:b∈fp) (e:h.get? b=some o):(b,o)∈pinsAt fp h:=List.mem_filterMap.mpr ⟨b,hb,by rw [e];rfl⟩
theorem of_pinsAt {fp:List Addr} {h:Heap} {p:Addr×Obj} (hp:p∈pinsAt fp h):p.1∈fp/\h.get? p.1=some p.2:=by
 obtain ⟨b,hb,e⟩:=List.mem_filterMap.mp hp
 cases q:h.get? b with
 |none=>rw [q] at e;cases e
 |some o=>
  rw [q] at e
  have e':(b,o)=p:=Option.some.inj e
  subst e'
  exact ⟨hb,q⟩
theorem Inv.pinned {pins:List (Addr×Obj)} {σ:St} {H:Hp} {s:Shared} {fp:List Addr} (I:Inv X pins σ H s) (hf:∀b∈fp,FpOk X pins H b) (ho:∀b∈fp,∃o,s.heap.get? b=some o/\∀v,o.data≠ .cell v):Inv X (pins++pinsAt fp s.heap) σ H s:=
 I.pins_of fun p hp=>(List.mem_append.mp hp).elim (fun z=>I.pin p (List.mem_append_right _ z)) fun z=>by
  obtain ⟨hb,e⟩:=of_pinsAt z
  obtain ⟨f0,f1,f2,_⟩:=hf p.1 hb
  obtain ⟨o,e',d⟩:=ho p.1 hb
  rw [e] at e';cases e'
  exact ⟨e,f0,f1,f2,d⟩
theorem Inv.unpinned {pins pl:List (Addr×Obj)} {σ:St} {H:Hp} {s:Shared} (I:Inv X (pins++pl) σ H s):Inv X pins σ H s:=I.pins_of fun p hp=>I.pin p (List.mem_append_right _ (List.mem_append_left _ hp))
theorem ps_for {iter : Expr} {body : List Stmt} {wi : TI} {g : TG} {tb : TS} {pos : Pos} (hp : PassesOwn (model X.prog X.w) X.A X.env X.xe) (hc : X.calm = true) (hi : PI X tg iter wi) (hg : PG X tg g) (hb : PSs X body tb)
  (hs : ∀ x, foldedSetIterable iter X.env x = pure x := by intro _; rfl) : PS X (.For tg iter body [] pos) (tFor wi g tb) := by
 intro pins s σ H D I h
 refine wpAny_For (thn (hi pins s σ H _ I h) fun v s1 h1 => thn h1 fun itv s2 h2 => ?_) hs
 obtain ⟨it, fp, tn, J, H2, e, I2, T, st2, f2, W, ⟨m0, w0⟩, turn⟩ := h2
 subst e
 -- what stays true of the iterator's objects through the loop
 have stat : ∀ {H' : Hp}, (∀ b ∈ fp, H' b = none) -> ∀ b ∈ fp, FpOk X pins H' b := fun hn b hb => ⟨hn b hb, (f2 b hb).2⟩
 refine codeAny_forLoop_any (fun n s' => ∃ i σ' H', Inv X pins σ' H' s' /\ tn i s'.heap /\ (∀ b ∈ fp, H' b = none) /\ W i n σ' H') ?_ m0 ⟨0, σ, H2, I2, st2, fun b hb => (f2 b hb).1, w0⟩
 rintro n s3 ⟨i, σ3, H3, I3, st3, fr3, w3⟩
 rcases turn i n σ3 H3 w3 with ⟨stop, qn⟩ | ⟨go, N, hN, step⟩
 ·refine wpAny_passesOwn hp (thn (T.done X rfl rfl rfl hc i pins s3 σ3 H3 X.xe I3 (stat fr3) st3 stop) fun r s4 ⟨hr, I4⟩ => ?_)
  subst hr
  exact wpAny_execs_nil ⟨σ3, H3, I4, qn⟩
 ·refine wpAny_passesOwn hp (thn (T.item X rfl rfl rfl hc i pins s3 σ3 H3 X.xe I3 (stat fr3) st3 go) fun r s4 ⟨u, hr, h4⟩ => ?_)
  subst hr
  refine wpAny_passesOwn hp (thn h4 fun _ s5 ⟨x, H5, I5, r5, y5, st5, fr5⟩ => ?_)
  have I5' := I5.pinned (stat fr5) (T.obj _ _ st5)
  refine wpAny_passesOwn hp (thn (hg _ s5 σ3 H5 x u _ I5' r5 (step x H5 y5)) fun _ s6 ⟨σ6, H6, I6, q6⟩ => ?_)
  refine wpAny_passesOwn hp (thn (hb _ s6 σ6 H6 _ I6 q6) fun f s7 q7 => ?_)
  have again : ∀ {σ7 : St} {H7 : Hp}, Inv X (pins ++ pinsAt fp s5.heap) σ7 H7 s7 -> N σ7 H7 -> ∃ m, m < n /\ ∃ i σ' H', Inv X pins σ' H' s7 /\ tn i s7.heap /\ (∀ b ∈ fp, H' b = none) /\ W i m σ' H' := fun {σ7 H7} I7 n7 => by
   obtain ⟨m', hm, w7⟩ := hN σ7 H7 n7
   refine ⟨m', hm, i + 1, σ7, H7, I7.unpinned, T.keep _ _ _ st5 fun b hb o e => (I7.pin (b, o) (List.mem_append_right _ (List.mem_append_right _ (mem_pinsAt hb e)))).1, fun b hb => ?_, w7⟩
   obtain ⟨o, e, d⟩ := T.obj _ _ st5 b hb
   exact (I7.pin (b, o) (List.mem_append_right _ (List.mem_append_right _ (mem_pinsAt hb e)))).2.1
  cases f with
  | next => obtain ⟨σ7, H7, I7, n7⟩ := q7; exact again I7 n7
  | cont => obtain ⟨σ7, H7, I7, n7⟩ := q7; exact again I7 n7
  | brk => obtain ⟨σ7, H7, I7, q7⟩ := q7; exact ⟨σ7, H7, I7.unpinned, q7⟩
  | ret v => obtain ⟨x7, σ7, H7, I7, r7, q7⟩ := q7; exact ⟨x7, σ7, H7, I7.unpinned, r7, q7⟩
end
theorem for_list {K : PySem.W.Frag} {a : Addr} {xs : List V} {g : TG} {tb : TS} {D : Ends} {σ : St} {H : Hp} (Pv : Nat -> St -> Hp -> Prop) (h0 : Pv 0 σ H) (hl : ∀ i σ H, i <= xs.length -> Pv i σ H -> SqL K H a xs)
  (hs : ∀ i x σ H, xs[i]? = some x -> Pv i σ H -> g x σ H fun σ2 H2 => tb { D with nx := Pv (i + 1), ct := Pv (i + 1), bk := D.nx } σ2 H2) (hd : ∀ σ H, Pv xs.length σ H -> D.nx σ H) :
  ∃ W : Nat -> Nat -> St -> Hp -> Prop, (∃ m, W 0 m σ H) /\ ∀ i m σ H, W i m σ H ->
   ((Itl K a).stop i H /\ D.nx σ H) ∨ ((Itl K a).go i H /\ ∃ N : St -> Hp -> Prop, (∀ σ' H', N σ' H' -> ∃ m', m' < m /\ W (i + 1) m' σ' H') /\ ∀ x H', (Itl K a).yld i H x H' -> g x σ H' fun σ2 H2 => tb { D with nx := N, ct := N, bk := D.nx } σ2 H2) := by
 refine ⟨fun i m σ H => m = xs.length - i /\ i <= xs.length /\ Pv i σ H, ⟨xs.length, by simp, Nat.zero_le _, h0⟩, ?_⟩
 rintro i m σ H ⟨rfl, hi, p⟩
 have q := hl i σ H hi p
 by_cases hlt : i < xs.length
 ·refine .inr ⟨⟨xs, xs[i], q, by simp [hlt]⟩, Pv (i + 1), fun σ' H' p' => ⟨xs.length - (i + 1), by omega, rfl, hlt, p'⟩, fun x H' y => ?_⟩
  obtain ⟨e, y⟩ := y
  subst e
  exact hs i x σ _ (y xs q) p
 ·have e : i = xs.length := by omega
  subst e
  exact .inl ⟨⟨xs, q, Nat.le_refl _⟩, hd σ H p⟩
theorem for_range {lo : Int} {n : Nat} {g : TG} {tb : TS} {D : Ends} {σ : St} {H : Hp} (Pv : Nat -> St -> Hp -> Prop) (h0 : Pv 0 σ H)
  (hs : ∀ i σ H, i < n -> Pv i σ H -> g (.int (lo + i)) σ H fun σ2 H2 => tb { D with nx := Pv (i + 1), ct := Pv (i + 1), bk := D.nx } σ2 H2) (hd : ∀ σ H, Pv n σ H -> D.nx σ H) :
  ∃ W : Nat -> Nat -> St -> Hp -> Prop, (∃ m, W 0 m σ H) /\ ∀ i m σ H, W i m σ H ->
   ((Itr lo n).stop i H /\ D.nx σ H) ∨ ((Itr lo n).go i H /\ ∃ N : St -> Hp -> Prop, (∀ σ' H', N σ' H' -> ∃ m', m' < m /\ W (i + 1) m' σ' H') /\ ∀ x H', (Itr lo n).yld i H x H' -> g x σ H' fun σ2 H2 => tb { D with nx := N, ct := N, bk := D.nx } σ2 H2) := by
 refine ⟨fun i m σ H => m = n - i /\ i <= n /\ Pv i σ H, ⟨n, by simp, Nat.zero_le _, h0⟩, ?_⟩
 rintro i m σ H ⟨rfl, hi, p⟩
 by_cases hlt : i < n
 ·refine .inr ⟨hlt, Pv (i + 1), fun σ' H' p' => ⟨n - (i + 1), by omega, rfl, hlt, p'⟩, fun x H' y => ?_⟩
  obtain ⟨e, y⟩ := y
  subst e y
  exact hs i σ _ hlt p
 ·have e : i = n := by omega
  subst e
  exact .inl ⟨Nat.le_refl _, hd σ H p⟩
end L2
namespace L2
open PySem PySem.Spec PyProof.Rows
abbrev R2:=V->V->Hp->VK->Prop
def OpR (X:Cx) (f:Value->Value->Sem Value) (r:R2):Prop:=
 ∀(pins:List (Addr×Obj)) (s:Shared) (σ:St) (H:Hp) (x y:V) (v u:Value) (Q:VK),Inv X pins σ H s->RelV x v->RelV y u->r x y H Q->
  wpAny (model X.prog X.w) X.A (f v u) (EP X pins σ Q) X.xe s
def UnR (X:Cx) (f:Value->Sem Value) (r:V->Hp->VK->Prop):Prop:=
 ∀(pins:List (Addr×Obj)) (s:Shared) (σ:St) (H:Hp) (x:V) (v:Value) (Q:VK),Inv X pins σ H s->RelV x v->r x H Q->
  wpAny (model X.prog X.w) X.A (f v) (EP X pins σ Q) X.xe s
def CallR (X:Cx) (f:Value) (r:List V->Hp->VK->Prop):Prop:=
 ∀(pins:List (Addr×Obj)) (s:Shared) (σ:St) (H:Hp) (xs:List V) (us:List Value) (Q:VK),Inv X pins σ H s->Vals xs us->r xs H Q->
  wpAny (model X.prog X.w) X.A (call f us) (EP X pins σ Q) X.xe s
def TruR (X:Cx) (r:V->Hp->(Bool->Hp->Prop)->Prop):Prop:=
 ∀(pins:List (Addr×Obj)) (s:Shared) (σ:St) (H:Hp) (x:V) (v:Value) (Q:Bool->Hp->Prop),Inv X pins σ H s->RelV x v->r x H Q->
  wpAny (model X.prog X.w) X.A (truthy v) (TP X pins σ Q) X.xe s
def tOp (r:R2) (ta tb:TE):TE:=fun σ H Q=>ta σ H fun x H1=>tb σ H1 fun y H2=>r x y H2 Q
def tUn (r:V->Hp->VK->Prop) (ta:TE):TE:=fun σ H Q=>ta σ H fun x H1=>r x H1 Q
def rI (C:Int->Int->Prop) (g:Int->Int->V):R2:=fun x y H Q=>∃i j,x= .int i/\y= .int j/\C i j/\Q (g i j) H
def rI0 (g:Int->Int->V):R2:=fun x y H Q=>∃i j,x= .int i/\y= .int j/\Q (g i j) H
def rU (g:Int->V):V->Hp->VK->Prop:=fun x H Q=>∃i,x= .int i/\Q (g i) H
section
variable {X:Cx} {a b c:Expr} {ta tb tc:TE} {pos:Pos}
theorem binT (ha:PE X a ta) (hb:PE X b tb) {pins:List (Addr×Obj)} {s:Shared} {σ:St} {H:Hp} {R:V->V->Hp->Prop} (I:Inv X pins σ H s)
  (h:ta σ H fun x H1=>tb σ H1 fun y H2=>R x y H2) {Q:Value->Shared->Prop} {f:Value->Value->Sem Value}
  (hf:∀v u s2 x y H2,Inv X pins σ H2 s2->RelV x v->RelV y u->R x y H2->wpAny (model X.prog X.w) X.A (f v u) Q X.xe s2):
  wpAny (model X.prog X.w) X.A (eval a X.env) (fun v s₁=>wpAny (model X.prog X.w) X.A (eval b X.env) (fun u s₂=>wpAny (model X.prog X.w) X.A (f v u) Q X.xe s₂) X.xe s₁) X.xe s:=by
 refine thn (ha pins s σ H _ I h) fun v s1 ⟨x,H1,I1,r1,q1⟩=>?_
 refine thn (hb pins s1 σ H1 _ I1 q1) fun u s2 ⟨y,H2,I2,r2,q2⟩=>?_
 exact hf v u s2 x y H2 I2 r1 r2 q2
theorem pe_op {op:Operator} {r:R2} (ho:OpR X (binaryOp op) r) (ha:PE X a ta) (hb:PE X b tb):PE X (.BinOp a op b pos) (tOp r ta tb):=by
 intro pins s σ H Q I h
 exact wpAny_BinOp (binT ha hb I h fun v u s2 x y H2 I2 rx ry q=>ho pins s2 σ H2 x y v u Q I2 rx ry q)
theorem pe_un {op:UnaryOp} {r:V->Hp->VK->Prop} (ho:UnR X (unaryOp op) r) (ha:PE X a ta):PE X (.UnaryOp op a pos) (tUn r ta):=by
 intro pins s σ H Q I h
 exact UnaryOp_ (thn (ha pins s σ H _ I h) fun v s1 ⟨x,H1,I1,r1,q1⟩=>ho pins s1 σ H1 x v Q I1 r1 q1)
theorem opI {f:Value->Value->Sem Value} {C:Int->Int->Prop} {g:Int->Int->Int}
  (rule:∀(i j:Int) (t u:Tok) (s:Shared) (Q:Value->Shared->Prop) (E:Value->Shared->Prop),C i j->Q (.int (g i j) s.toks) {s with toks:=s.toks+1}->wpAny (model X.prog X.w) X.A (f (.int i t) (.int j u)) Q E s):
  OpR X f (rI C fun i j=> .int (g i j)):=by
 intro pins s σ H x y v u Q I rx ry h
 obtain ⟨i,j,rfl,rfl,hc,q⟩:=h
 obtain ⟨t,rfl⟩:=rx
 obtain ⟨t',rfl⟩:=ry
 exact rule i j t t' s _ _ hc ⟨.int (g i j),H,I.tok _,⟨_,rfl⟩,q⟩
theorem opI0 {f:Value->Value->Sem Value} {g:Int->Int->Int}
  (rule:∀(i j:Int) (t u:Tok) (s:Shared) (Q:Value->Shared->Prop) (E:Value->Shared->Prop),Q (.int (g i j) s.toks) {s with toks:=s.toks+1}->wpAny (model X.prog X.w) X.A (f (.int i t) (.int j u)) Q E s):
  OpR X f (rI0 fun i j=> .int (g i j)):=by
 intro pins s σ H x y v u Q I rx ry h
 obtain ⟨i,j,rfl,rfl,q⟩:=h
 obtain ⟨t,rfl⟩:=rx
 obtain ⟨t',rfl⟩:=ry
 exact rule i j t t' s _ _ ⟨.int (g i j),H,I.tok _,⟨_,rfl⟩,q⟩
theorem opB0 {f:Value->Value->Sem Value} {g:Int->Int->Bool}
  (rule:∀(i j:Int) (t u:Tok) (s:Shared) (Q:Value->Shared->Prop) (E:Value->Shared->Prop),Q (.bool (g i j)) s->wpAny (model X.prog X.w) X.A (f (.int i t) (.int j u)) Q E s):
  OpR X f (rI0 fun i j=> .bl (g i j)):=by
 intro pins s σ H x y v u Q I rx ry h
 obtain ⟨i,j,rfl,rfl,q⟩:=h
 obtain ⟨t,rfl⟩:=rx
 obtain ⟨t',rfl⟩:=ry
 exact rule i j t t' s _ _ ⟨.bl (g i j),H,I,rfl,q⟩
def CMul (i j:Int):Prop:=(-(2 ^ 64) < i/\i < 2 ^ 64)∨(-(2 ^ 64) < j/\j < 2 ^ 64)
theorem CMul.ok {i j:Int} (h:CMul i j):IntMulOk i j:=by
 rcases h with ⟨h1,h2⟩|⟨h1,h2⟩
 ·exact .of_left (intBits_le_64 h1 h2)
 ·exact .of_right (intBits_le_64 h1 h2)
theorem op_add:OpR X (binaryOp .Add) (rI0 fun i j=> .int (i+j)):=opI0 fun _ _ _ _ _ _ _ q=>add_int q
theorem op_sub:OpR X (binaryOp .Sub) (rI0 fun i j=> .int (i - j)):=opI0 fun _ _ _ _ _ _ _ q=>sub_int q
theorem op_mul:OpR X (binaryOp .Mult) (rI CMul fun i j=> .int (i*j)):=opI fun _ _ _ _ _ _ _ hc q=>mul_int q hc.ok
theorem op_mod:OpR X (binaryOp .Mod) (rI (fun _ j=>0 < j) fun i j=> .int (i % j)):=opI fun i j _ _ _ _ _ hc q=>by
 have h1:(0:Int) < j:=hc
 exact mod_int' (by omega) (by rw [Int.fmod_eq_emod_of_nonneg i (by omega)];exact q)
theorem unI {f:Value->Sem Value} {g:Int->Int}
  (rule:∀(i:Int) (t:Tok) (s:Shared) (Q:Value->Shared->Prop) (E:Value->Shared->Prop),Q (.int (g i) s.toks) {s with toks:=s.toks+1}->wpAny (model X.prog X.w) X.A (f (.int i t)) Q E s):
  UnR X f (rU fun i=> .int (g i)):=by
 intro pins s σ H x v Q I rx h
 obtain ⟨i,rfl,q⟩:=h
 obtain ⟨t,rfl⟩:=rx
 exact rule i t s _ _ ⟨.int (g i),H,I.tok _,⟨_,rfl⟩,q⟩
theorem un_neg:UnR X (unaryOp .USub) (rU fun i=> .int (-i)):=unI fun _ _ _ _ _ q=>neg_int q
end
def scal:V->V->Bool
 | .non,.non=>true| .non,.int _=>true| .int _,.non=>true| .non,.bl _=>true| .bl _,.non=>true| .non,.str _=>true| .str _,.non=>true
 | .int _,.int _=>true| .bl _,.bl _=>true| .str _,.str _=>true| .byt _,.byt _=>true
 | .int _,.str _=>true| .str _,.int _=>true| .bl _,.str _=>true| .str _,.bl _=>true
 |_,_=>false
def rEq:R2:=fun x y H Q=>scal x y=true/\Q (.bl (decide (x=y))) H
def rNe:R2:=fun x y H Q=>scal x y=true/\Q (.bl (!decide (x=y))) H
theorem dec_int {i j:Int}:decide (V.int i=V.int j)=(i==j):=by
 rw [Bool.eq_iff_iff]
 simp
theorem dec_bl {i j:Bool}:decide (V.bl i=V.bl j)=(i==j):=by
 rw [Bool.eq_iff_iff]
 simp
theorem dec_str {i j:Str}:decide (V.str i=V.str j)=(i==j):=by
 rw [Bool.eq_iff_iff]
 simp
theorem dec_byt {i j:Array UInt8}:decide (V.byt i=V.byt j)=(i.toList==j.toList):=by
 rw [Bool.eq_iff_iff]
 cases i
 cases j
 simp
section
variable {X:Cx} {a b c:Expr} {ta tb tc:TE} {pos:Pos}
theorem fin_bl {pins:List (Addr×Obj)} {σ:St} {H:Hp} {s:Shared} {Q:VK} {k k':Bool} (I:Inv X pins σ H s) (q:Q (.bl k) H) (e:k=k'):EP X pins σ Q (.bool k') s:=by
 subst e
 exact ⟨.bl k,H,I,rfl,q⟩
theorem op_eq:OpR X (compareOp .Eq) rEq:=by
 intro pins s σ H x y v u Q I rx ry h
 obtain ⟨hs,q⟩:=h
 cases x with
 |non=>
  cases rx
  cases y with
  |non=>cases ry;exact PySem.EqNone.eq_none_none (fin_bl I q (by simp))
  |bl j=>cases ry;exact PySem.EqNone.eq_none_bool (fin_bl I q (by simp))
  |int j=>obtain ⟨t',rfl⟩:=ry;exact PySem.EqNone.eq_none_int (fin_bl I q (by simp))
  |str j=>obtain ⟨t',rfl⟩:=ry;exact PySem.EqNone.eq_none_str (fin_bl I q (by simp))
  |_=>exact absurd (show false=true from hs) Bool.false_ne_true
 |bl i=>
  cases rx
  cases y with
  |non=>cases ry;exact PySem.EqNone.eq_bool_none (fin_bl I q (by simp))
  |bl j=>cases ry;exact eq_bool (fin_bl I q dec_bl)
  |str j=>obtain ⟨t',rfl⟩:=ry;exact PySem.EqMixed.eq_bool_str (fin_bl I q (by simp))
  |_=>exact absurd (show false=true from hs) Bool.false_ne_true
 |int i=>
  obtain ⟨t,rfl⟩:=rx
  cases y with
  |non=>cases ry;exact PySem.EqNone.eq_int_none (fin_bl I q (by simp))
  |int j=>obtain ⟨t',rfl⟩:=ry;exact eq_int (fin_bl I q dec_int)
  |str j=>obtain ⟨t',rfl⟩:=ry;exact PySem.EqMixed.eq_int_str (fin_bl I q (by simp))
  |_=>exact absurd (show false=true from hs) Bool.false_ne_true
 |str i=>
  obtain ⟨t,rfl⟩:=rx
  cases y with
  |non=>cases ry;exact PySem.EqNone.eq_str_none (fin_bl I q (by simp))
  |bl j=>cases ry;exact PySem.EqMixed.eq_str_bool (fin_bl I q (by simp))
  |int j=>obtain ⟨t',rfl⟩:=ry;exact PySem.EqMixed.eq_str_int (fin_bl I q (by simp))
  |str j=>obtain ⟨t',rfl⟩:=ry;exact eq_str (fin_bl I q dec_str)
  |_=>exact absurd (show false=true from hs) Bool.false_ne_true
 |byt i=>
  obtain ⟨t,rfl⟩:=rx
  cases y with
  |byt j=>obtain ⟨t',rfl⟩:=ry;exact PySem.W.eq_bytes (fin_bl I q dec_byt)
  |_=>exact absurd (show false=true from hs) Bool.false_ne_true
 |_=>cases y<;>exact absurd (show false=true from hs) Bool.false_ne_true
theorem op_ne:OpR X (compareOp .NotEq) rNe:=by
 intro pins s σ H x y v u Q I rx ry h
 obtain ⟨hs,q⟩:=h
 cases x with
 |non=>
  cases rx
  cases y with
  |non=>cases ry;exact PySem.EqNone.ne_none_none (fin_bl I q (by simp))
  |bl j=>cases ry;exact PySem.EqNone.ne_none_bool (fin_bl I q (by simp))
  |int j=>obtain ⟨t',rfl⟩:=ry;exact PySem.EqNone.ne_none_int (fin_bl I q (by simp))
  |str j=>obtain ⟨t',rfl⟩:=ry;exact PySem.EqNone.ne_none_str (fin_bl I q (by simp))
  |_=>exact absurd (show false=true from hs) Bool.false_ne_true
 |bl i=>
  cases rx
  cases y with
  |non=>cases ry;exact PySem.EqNone.ne_bool_none (fin_bl I q (by simp))
  |bl j=>cases ry;exact ne_bool (fin_bl I q (congrArg not dec_bl))
  |str j=>obtain ⟨t',rfl⟩:=ry;exact PySem.EqMixed.ne_bool_str (fin_bl I q (by simp))
  |_=>exact absurd (show false=true from hs) Bool.false_ne_true
 |int i=>
  obtain ⟨t,rfl⟩:=rx
  cases y with
  |non=>cases ry;exact PySem.EqNone.ne_int_none (fin_bl I q (by simp))
  |int j=>obtain ⟨t',rfl⟩:=ry;exact ne_int (fin_bl I q (congrArg not dec_int))
  |str j=>obtain ⟨t',rfl⟩:=ry;exact PySem.EqMixed.ne_int_str (fin_bl I q (by simp))
  |_=>exact absurd (show false=true from hs) Bool.false_ne_true
 |str i=>
  obtain ⟨t,rfl⟩:=rx
  cases y with
  |non=>cases ry;exact PySem.EqNone.ne_str_none (fin_bl I q (by simp))
  |bl j=>cases ry;exact PySem.EqMixed.ne_str_bool (fin_bl I q (by simp))
  |int j=>obtain ⟨t',rfl⟩:=ry;exact PySem.EqMixed.ne_str_int (fin_bl I q (by simp))
  |str j=>obtain ⟨t',rfl⟩:=ry;exact ne_str (fin_bl I q (congrArg not dec_str))
  |_=>exact absurd (show false=true from hs) Bool.false_ne_true
 |byt i=>
  obtain ⟨t,rfl⟩:=rx
  cases y with
  |byt j=>obtain ⟨t',rfl⟩:=ry;exact PySem.W.ne_bytes (fin_bl I q (congrArg not dec_byt))
  |_=>exact absurd (show false=true from hs) Bool.false_ne_true
 |_=>cases y<;>exact absurd (show false=true from hs) Bool.false_ne_true
theorem op_lt:OpR X (compareOp .Lt) (rI0 fun i j=> .bl (decide (i < j))):=opB0 fun _ _ _ _ _ _ _ q=>lt_int q
theorem op_le:OpR X (compareOp .LtE) (rI0 fun i j=> .bl (decide (i<=j))):=opB0 fun _ _ _ _ _ _ _ q=>le_int q
theorem op_gt:OpR X (compareOp .Gt) (rI0 fun i j=> .bl (decide (j < i))):=opB0 fun _ _ _ _ _ _ _ q=>gt_int q
theorem op_ge:OpR X (compareOp .GtE) (rI0 fun i j=> .bl (decide (j<=i))):=opB0 fun _ _ _ _ _ _ _ q=>ge_int q
theorem op_isN:OpR X (compareOp .Is) (fun x y H Q=>y= .non/\Q (.bl (decide (x= .non))) H):=by
 intro pins s σ H x y v u Q I rx ry h
 obtain ⟨rfl,q⟩:=h
 cases ry
 refine is_none_gen (fin_bl I q ?_)
 cases x<;>first
  |(cases rx;rfl)
  |(obtain ⟨t,rfl⟩:=rx;rfl)
theorem op_notN:OpR X (compareOp .IsNot) (fun x y H Q=>y= .non/\Q (.bl (!decide (x= .non))) H):=by
 intro pins s σ H x y v u Q I rx ry h
 obtain ⟨rfl,q⟩:=h
 cases ry
 refine isnot_none_gen (fin_bl I q ?_)
 cases x<;>first
  |(cases rx;rfl)
  |(obtain ⟨t,rfl⟩:=rx;rfl)
theorem nomark (b:Expr) {op:CmpOp} (h:op≠ .In:=by decide) (h2:op≠ .NotIn:=by decide):behindInMarks op b=false:=by
 have e1:(op==CmpOp.In)=false:=by cases op<;>first|rfl|exact absurd rfl h
 have e2:(op==CmpOp.NotIn)=false:=by cases op<;>first|rfl|exact absurd rfl h2
 cases b<;>simp [behindInMarks,e1,e2]
theorem pe_cmpR {op:CmpOp} {r:R2} (ho:OpR X (compareOp op) r) (ha:PE X a ta) (hb:PE X b tb) (hm:behindInMarks op b=false):PE X (.Compare a [op] [b] pos) (tOp r ta tb):=by
 intro pins s σ H Q I h
 exact wpAny_Compare1 (binT ha hb I h fun v u s2 x y H2 I2 rx ry q=>ho pins s2 σ H2 x y v u Q I2 rx ry q) hm
def tTest (t:TE):TT:=fun σ H Q=>t σ H fun x H'=>∃k,x= .bl k/\Q k H'
theorem pt_cmpR {op:CmpOp} {r:R2} (ho:OpR X (compareOp op) r) (ha:PE X a ta) (hb:PE X b tb) (hm:behindInMarks op b=false):PT X (.Compare a [op] [b] pos) (tTest (tOp r ta tb)):=by
 intro pins s σ H Q I h
 refine wpAny_isTrue_Compare1 (thn (ha pins s σ H _ I h) fun v s1 ⟨x,H1,I1,r1,q1⟩=>thn (hb pins s1 σ H1 _ I1 q1) fun u s2 ⟨y,H2,I2,r2,q2⟩=>
  thn (ho pins s2 σ H2 x y v u _ I2 r1 r2 q2) fun c s3 ⟨z,H3,I3,r3,k,e,q3⟩=>?_) hm
 subst e
 cases r3
 exact wpAny_truthy_bool ⟨H3,I3,q3⟩
def tChain (r r':R2) (ta tb tc:TE):TE:=fun σ H Q=>ta σ H fun x H1=>tb σ H1 fun y H2=>r x y H2 fun z H3=>∃k,z= .bl k/\
 (if k=true then tc σ H3 fun w' H4=>r' y w' H4 Q else Q (.bl false) H3)
theorem pe_chain {op op':CmpOp} {r r':R2} (ho:OpR X (compareOp op) r) (ho':OpR X (compareOp op') r') (ha:PE X a ta) (hb:PE X b tb) (hc:PE X c tc)
  (hm:lastMarks [op,op'] [b,c]=false:=by with_unfolding_all rfl):PE X (.Compare a [op,op'] [b,c] pos) (tChain r r' ta tb tc):=by
 intro pins s σ H Q I h
 refine Compare_chain (thn (ha pins s σ H _ I h) fun v s1 ⟨x,H1,I1,r1,q1⟩=>chain_link (thn (hb pins s1 σ H1 _ I1 q1) fun u s2 ⟨y,H2,I2,r2,q2⟩=>
  thn (ho pins s2 σ H2 x y v u _ I2 r1 r2 q2) fun d s3 ⟨z,H3,I3,r3,k,e,q3⟩=>?_)) hm
 subst e
 cases r3
 refine wpAny_truthy_bool ?_
 cases k with
 |false=>exact ite_ff ⟨.bl false,H3,I3,rfl,q3⟩
 |true=>exact ite_tt (chain_last (thn (hc pins s3 σ H3 _ I3 q3) fun w' s4 ⟨z',H4,I4,r4,q4⟩=>ho' pins s4 σ H4 y z' u w' Q I4 r2 r4 q4))
theorem pt_chain {op op':CmpOp} {r r':R2} (ho:OpR X (compareOp op) r) (ho':OpR X (compareOp op') r') (ha:PE X a ta) (hb:PE X b tb) (hc:PE X c tc)
  (hm:lastMarks [op,op'] [b,c]=false:=by with_unfolding_all rfl):PT X (.Compare a [op,op'] [b,c] pos) (tTest (tChain r r' ta tb tc)):=by
 intro pins s σ H Q I h
 refine isTrue_chain (thn (ha pins s σ H _ I h) fun v s1 ⟨x,H1,I1,r1,q1⟩=>test_link (thn (hb pins s1 σ H1 _ I1 q1) fun u s2 ⟨y,H2,I2,r2,q2⟩=>
  thn (ho pins s2 σ H2 x y v u _ I2 r1 r2 q2) fun d s3 ⟨z,H3,I3,r3,k,e,q3⟩=>?_)) hm
 subst e
 cases r3
 refine wpAny_truthy_bool ?_
 cases k with
 |false=>
  obtain ⟨k',e',q'⟩:=q3
  cases e'
  exact ite_ff ⟨H3,I3,q'⟩
 |true=>
  refine ite_tt (test_last (thn (hc pins s3 σ H3 _ I3 q3) fun w' s4 ⟨z',H4,I4,r4,q4⟩=>thn (ho' pins s4 σ H4 y z' u w' _ I4 r2 r4 q4) fun d' s5 ⟨z2,H5,I5,r5,k2,e2,q5⟩=>?_))
  subst e2
  cases r5
  exact wpAny_truthy_bool ⟨H5,I5,q5⟩
def TruV (K:PySem.W.Frag) (x:V) (H:Hp) (k:Bool):Prop:=
 match x with
 | .non=>k=false
 | .bl b=>k=b
 | .int i=>k=(i !=0)
 | .str y=>y.length<=sizeLine/\k=((y.length:Int) !=0)
 | .byt y=>y.size<=sizeLine/\k=((y.size:Int) !=0)
 | .ref p=>(∃xs,SqL K H p xs/\k= !xs.isEmpty)∨(∃xs,SqT K H p xs/\k= !xs.isEmpty)∨∃kvs,H p=some (.dK kvs)/\k= !kvs.isEmpty
 |_=>False
theorem isEmpty_kv {κ:Type} {kvs:List (κ×V)} {vs:List (κ×Value)} (r:KV kvs vs):(!vs.isEmpty)= !kvs.isEmpty:=by
 cases r<;>rfl
theorem isEmpty_of {xs:List V} {its:List Value} (r:Vals xs its):(!its.toArray.isEmpty)= !xs.isEmpty:=by
 cases r<;>simp
theorem line63:(sizeLine:Nat) < 2 ^ 63:=by rw [sizeLine_eq];decide
theorem tru_ok:TruR X (fun x H Q=>∃k,TruV X.K x H k/\Q k H):=by
 intro pins s σ H x v Q I rx h
 obtain ⟨k,e,q⟩:=h
 have hl:=line63
 have hs:sizeLine=16777216:=sizeLine_eq
 cases x with
 |non=>
  cases rx
  have e':k=false:=e
  subst e'
  exact truthy_none ⟨H,I,q⟩
 |bl b=>
  cases rx
  have e':k=b:=e
  subst e'
  exact wpAny_truthy_bool ⟨H,I,q⟩
 |int i=>
  obtain ⟨t,rfl⟩:=rx
  have e':k=(i !=0):=e
  subst e'
  exact PySem.P.truthy_int ⟨H,I,q⟩
 |str y=>
  obtain ⟨t,rfl⟩:=rx
  obtain ⟨hy,e'⟩:y.length<=sizeLine/\k=((y.length:Int) !=0):=e
  subst e'
  exact PySem.P.truthy_str (by omega) ⟨H,I.tok _,q⟩
 |byt y=>
  obtain ⟨t,rfl⟩:=rx
  obtain ⟨hy,e'⟩:y.size<=sizeLine/\k=((y.size:Int) !=0):=e
  subst e'
  exact PySem.W.truthy_bytes (by omega) ⟨H,I.tok _,q⟩
 |ref p=>
  cases rx
  have e':(∃xs,SqL X.K H p xs/\k= !xs.isEmpty)∨(∃xs,SqT X.K H p xs/\k= !xs.isEmpty)∨∃kvs,H p=some (.dK kvs)/\k= !kvs.isEmpty:=e
  rcases e' with ⟨xs,hx,e'⟩|⟨xs,hx,e'⟩|⟨kvs,hx,e'⟩
  ·subst e'
   obtain ⟨its,r,pl,hz⟩:=I.list hx
   have hlen:=r.length
   exact wpAny_truthy_list pl.isList (by simp only [List.size_toArray];omega) ⟨H,I.tok _,by rw [isEmpty_of r];exact q⟩
  ·subst e'
   obtain ⟨its,r,pl,hz⟩:=I.tuple hx
   have hlen:=r.length
   exact truthy_tuple pl (by simp only [List.size_toArray];omega) ⟨H,I.tok _,by rw [isEmpty_of r];exact q⟩
  ·subst e'
   obtain ⟨hz,hS,vs,r,m⟩:kvs.length<=sizeLine/\(p==sysModules)=false/\∃vs,KV kvs vs/\s.heap.DictOf (mixKind X.prog X.w) p vs:=I.hok p _ hx
   have hlen:kvs.length=vs.length:=Paired.length r
   exact wpAny_truthy_dict hS m (by omega) ⟨H,I.tok _,by rw [isEmpty_kv r];exact q⟩
 |_=>exact (show False from e).elim
theorem pt_truth (ha:PE X a ta) (he:∀whole,isTrue a X.env whole=(do let v ←whole;standAt a.pos;holding [v] (truthy v))):
  PT X a (fun σ H Q=>ta σ H fun x H'=>∃k,TruV X.K x H' k/\Q k H'):=by
 intro pins s σ H Q I h
 exact isTrue_plain (thn (ha pins s σ H _ I h) fun v s1 ⟨x,H1,I1,r1,q1⟩=>tru_ok pins s1 σ H1 x v Q I1 r1 q1) (he _)
theorem vals1 {x:V} {us:List Value} (r:Vals [x] us):∃u,us= [u]/\RelV x u:=by
 cases r with
 |cons r1 r2=>cases r2;exact ⟨_,rfl,r1⟩
theorem vals2 {x y:V} {us:List Value} (r:Vals [x,y] us):∃u w',us= [u,w']/\RelV x u/\RelV y w':=by
 cases r with
 |cons r1 r2=>
  cases r2 with
  |cons r3 r4=>cases r4;exact ⟨_,_,rfl,r1,r3⟩
theorem call_str_int:CallR X (.type "str") (fun xs H Q=>∃i,xs= [.int i]/\i.natAbs.log2 < 1920/\Q (.str (toString i)) H):=by
 intro pins s σ H xs us Q I r h
 obtain ⟨i,rfl,hz,q⟩:=h
 obtain ⟨u,rfl,t,rfl⟩:=vals1 r
 exact PySem.P.str_of_int hz ⟨.str _,H,I.tok _,⟨_,rfl⟩,q⟩
end
end L2
namespace L2
open PySem PySem.Spec PyProof.Rows
structure ObjM (h:Heap) (x dx C:Addr) (mA:Str->Option Value):Prop where
 obj:h.get? x=some (PySem.W.instObj C dx)
 ns:h.Ns1 dx mA
 ne:dx≠x
theorem lookIn_ns {h:Heap} {dx:Addr} {mA:Str->Option Value} (n:h.Ns1 dx mA):∃od,h.get? dx=some od/\∀name,PySem.W.lookIn name od=some (mA name):=by
 obtain ⟨o,es,ep,ho,hd,hk,_,hm⟩:=n
 refine ⟨o,ho,fun name=>?_⟩
 have e:=hm name
 unfold nsFind findBy at e
 rw [←Array.find?_toList] at e
 unfold PySem.W.lookIn
 rw [hd]
 dsimp only
 split
 ·rename_i y q
  rw [q] at e
  exact congrArg some e
 ·rename_i q
  rw [q] at e
  have a:es.toList.any (·.refKey)=false:=by
   rw [List.any_eq_false]
   intro y hy
   obtain ⟨z,t,hkey⟩:=hk y (Array.mem_toList_iff.mp hy)
   simp [DictEntry.refKey,hkey]
  have a':¬es.toList.any (·.refKey)=true:=by rw [a];exact Bool.false_ne_true
  rw [if_neg a']
  exact congrArg some e
theorem ObjM.look {h:Heap} {x dx C:Addr} {mA:Str->Option Value} (I:ObjM h x dx C mA):∃od,PySem.W.InstAt h x (PySem.W.instObj C dx) C (some od)/\∀name,PySem.W.lookIn name od=some (mA name):=
 let ⟨od,ho,hl⟩:=lookIn_ns I.ns
 ⟨od,⟨I.obj,rfl,rfl,ho⟩,hl⟩
section
variable {prog:Program} {w:World} {A:Around} {E:Value->Shared->Prop} {s:Shared} {K:PySem.W.Frag} {x dx C f:Addr} {mA:Str->Option Value} {name:Str} {v:Value}
theorem get_map {expr:Bool} {Q:Value->Shared->Prop} (X:K.In s.heap) (I:ObjM s.heap x dx C mA) (hg:PySem.W.plainGet K C name=true) (hh:PySem.W.hasDictIn K C=true)
  (ha:PySem.W.findIn K (.ref C) name=some none) (hv:mA name=some v) (hv':PySem.W.handedIn v=true) (h:Q v {s with toks:=s.toks+1}):
  wpAny (model prog w) A (getAttr (.ref x) name expr) Q E s:=by
 obtain ⟨od,J,hl⟩:=I.look
 exact PySem.W.get_value X J (PySem.W.plainGet_of hg).1 (PySem.W.findObj_own hh ha rfl (by rw [hl,hv])) hv' h
theorem get_meth {pl:Sem Bool} {Q:Value×List Value->Shared->Prop} (X:K.In s.heap) (I:ObjM s.heap x dx C mA) (hg:PySem.W.plainGet K C name=true)
  (hf:PySem.W.findIn K (.ref C) name=some (some (.ref f))) (ht:PySem.W.isFn K (.ref f)=true) (hv:mA name=none) (h:Q (.ref f,[.ref x]) s):
  wpAny (model prog w) A (getMethod (.ref x) name pl) Q E s:=by
 obtain ⟨od,J,hl⟩:=I.look
 exact PySem.W.method_fn X J (PySem.W.plainGet_of hg).1 (PySem.W.plainGet_of hg).2 hf (beq_iff_eq.mp ht) (by show (PySem.W.lookIn name od).map (·.isSome)=some false;rw [hl,hv];rfl) h
theorem set_map {ns:List Str} {Q:Unit->Shared->Prop} (X:K.In s.heap) (I:ObjM s.heap x dx C mA)
  (hs:PySem.W.findIn K (.ref C) "__setattr__"=some (some (.builtin "object.__setattr__"))) (hp:PySem.W.plainOver K C=true) (ht:PySem.W.takerIn K C name=some none) (hh:PySem.W.hasDictIn K C=true)
  (hw:PySem.Within mA ns) (hsz:ns.length<=sizeLine)
  (h:∀h',ObjM h' x dx C (fun y=>if y=name then some v else mA y)->Heap.SameBut dx s.heap h'->Q () {s with heap:=h',toks:=s.toks+2}):
  wpAny (model prog w) A (setAttr (.ref x) name v) Q E s:=by
 obtain ⟨od,J,hl⟩:=I.look
 refine PySem.W.set_plain X J hs (PySem.W.osa_open (s:={s with toks:=s.toks+1}) (r:=none) X J hp ht fun b=>?_)
 obtain ⟨cd,hc,hd'⟩:=PySem.W.any_some hh
 have hx:s.heap.get? x=some ⟨.ref C,some dx,.plain, #[]⟩:=I.obj
 refine wpAny_bind (wpAny_pure (wpAny_bind (wpAny_bind (wpAny_loadPart hx (wpAny_bind (PySem.W.Looks.here (s:={s with toks:=s.toks+1}) (PySem.W.looks_clsIn X hc) ?_))))))
 rw [hd']
 refine wpAny_pure (a:=some dx) (wpAny_bind (wpAny_pure (wpAny_bind ?_)))
 refine wpAny_nsSet1 (s:={s with toks:=s.toks+1}) I.ns fun h' hn2 hs2=>?_
 obtain ⟨oD,esD,epD,hoD,hdD,hcD⟩:=hn2.count (PySem.Within.cons name v hw)
 refine wpAny_bind (wpAny_lookBehind hoD (by rw [hdD];exact pastItsLine_dict (Nat.le_trans hcD (by rw [List.length_cons];omega))) ?_)
 exact wpAny_pure (h _ ⟨(hs2.2 _ (Ne.symm I.ne)).trans I.obj,hn2,I.ne⟩ hs2)
theorem make_map {R : Result -> Shared -> Prop} {vs : List Value} {kw : List (Str × Value)} (X : K.In s.heap) (hm : PySem.W.makesIn K C = true)
  (hi : PySem.W.findIn K (.ref C) "__init__" = some (some (.ref f))) (hf : PySem.W.typeIn K (.ref f) = some (.type "function"))
  (h : codeAny (model prog w) (A.under (.builtin "type.__call__" ⟨.ref C :: vs, kw⟩)) (.call (.ref f) ⟨.ref (s.heap.objs.size + 1) :: vs, kw⟩) (PySem.W.InitBack (s.heap.objs.size + 1) R)
   { s with heap := (s.heap.push PySem.W.emptyDict).push (PySem.W.instObj C s.heap.objs.size) }) :
  codeAny (model prog w) A (.call (.ref C) ⟨vs, kw⟩) R s := by
 obtain ⟨hh, g, d, t, os⟩ := s
 exact PySem.W.make_core (PySem.W.makes_of X hm) (PySem.W.looks_findIn X hi) (fun self => PySem.W.bind_fn X self hf) (.inl rfl) h
end
def putF (f:Str) (v:V):List (Str×V)->List (Str×V)
 | []=> [(f,v)]
 |(g,x)::r=>if g=f then (g,v)::r else (g,x)::putF f v r
theorem lookup_putF (f g : Str) (v : V) : ∀ fs : List (Str × V), (putF f v fs).lookup g = if g = f then some v else fs.lookup g
 | [] => by
  show List.lookup g [(f, v)] = _
  by_cases h : g = f
  ·have hb : (g == f) = true := beq_iff_eq.mpr h
   simp only [List.lookup, hb, if_pos h]
  ·have hb : (g == f) = false := beq_eq_false_iff_ne.mpr h
   simp only [List.lookup, hb, if_neg h]
 | (k, x) :: r => by
  have ih := lookup_putF f g v r
  rw [show putF f v ((k, x) :: r) = (if k = f then (k, v) :: r else (k, x) :: putF f v r) from rfl]
  by_cases hk : k = f
  ·rw [if_pos hk]
   by_cases h : g = k
   ·have hb : (g == k) = true := beq_iff_eq.mpr h
    simp only [List.lookup, hb, if_pos (h.trans hk)]
   ·have hb : (g == k) = false := beq_eq_false_iff_ne.mpr h
    simp only [List.lookup, hb, if_neg (fun e : g = f => h (e.trans hk.symm))]
  ·rw [if_neg hk]
   by_cases h : g = k
   ·have hb : (g == k) = true := beq_iff_eq.mpr h
    simp only [List.lookup, hb, if_neg (fun e : g = f => hk (h.symm.trans e))]
   ·have hb : (g == k) = false := beq_eq_false_iff_ne.mpr h
    simp only [List.lookup, hb]
    exact ih
theorem keys_putF (f : Str) (v : V) : ∀ fs : List (Str × V), f ∈ (putF f v fs).map (·.1) /\ ∀ g, g ∈ fs.map (·.1) -> g ∈ (putF f v fs).map (·.1)
 | [] => ⟨by simp [putF], fun g h => by simp at h⟩
 | (k, x) :: r => by
  obtain ⟨i1, i2⟩ := keys_putF f v r
  rw [show putF f v ((k, x) :: r) = (if k = f then (k, v) :: r else (k, x) :: putF f v r) from rfl]
  by_cases hk : k = f
  ·rw [if_pos hk]
   subst hk
   exact ⟨by simp, fun g h => by simpa using h⟩
  ·rw [if_neg hk]
   refine ⟨?_, fun g h => ?_⟩
   ·rw [List.map_cons]
    exact List.mem_cons_of_mem _ i1
   ·rw [List.map_cons] at h ⊢
    rcases List.mem_cons.mp h with e | e
    ·exact List.mem_cons.mpr (.inl e)
    ·exact List.mem_cons_of_mem _ (i2 g e)
theorem length_putF (f:Str) (v:V):∀fs:List (Str×V),(putF f v fs).length<=fs.length+1
 | []=>by simp [putF]
 |(k,x)::r=>by
  have ih:=length_putF f v r
  rw [show putF f v ((k,x)::r)=(if k=f then (k,v)::r else (k,x)::putF f v r) from rfl]
  by_cases hk:k=f
  ·rw [if_pos hk,List.length_cons,List.length_cons];omega
  ·rw [if_neg hk,List.length_cons,List.length_cons];omega
theorem RelO.some_of {v:V} {o:Option Value} (r:RelO (some v) o):∃u,o=some u/\RelV v u:=by
 cases o with
 |none=>exact (show False from r).elim
 |some u=>exact ⟨u,rfl,r⟩
theorem RelO.none_of {o:Option Value} (r:RelO none o):o=none:=by
 cases o with
 |none=>rfl
 |some u=>exact (show False from r).elim
theorem handed_of {v:V} {u:Value} (r:RelV v u):PySem.W.handedIn u=true:=by
 cases v with
 |non=>cases (show u=Value.none from r);rfl
 |bl b=>cases (show u=Value.bool b from r);rfl
 |int i=>obtain ⟨t,e⟩:=(show ∃t,u=Value.int i t from r);cases e;rfl
 |str x=>obtain ⟨t,e⟩:=(show ∃t,u=Value.str x t from r);cases e;rfl
 |byt b=>obtain ⟨t,e⟩:=(show ∃t,u=Value.bytes b t from r);cases e;rfl
 |flt b=>obtain ⟨t,e⟩:=(show ∃t,u=Value.float b t from r);cases e;rfl
 |ref a=>cases (show u=Value.ref a from r);rfl
 |ty n=>cases (show u=Value.type n from r);rfl
section
variable {P:Program} {w:World} {H H':Hp} {h h':Heap} {a C dx:Addr} {fs fs':List (Str×V)}
theorem ins_get (hok:HOk P w H h) (e:H a=some (.ins C dx fs)):∃mA,ObjM h a dx C mA/\(∀f,RelO (fs.lookup f) (mA f))/\PySem.Within mA (fs.map (·.1))/\fs.length<=1000/\H dx=some (.own a):=by
 obtain ⟨d,z,ne,ob,mA,n,r,q⟩:=(show ObjOk P w H h a (.ins C dx fs) from hok a _ e)
 exact ⟨mA,⟨ob,n,ne⟩,r,q,z,d⟩
end
structure Cls (K:PySem.W.Frag) (C:Addr):Prop where
 pg:PySem.W.plainGet K C Str.empty=true
 hd:PySem.W.hasDictIn K C=true
 po:PySem.W.plainOver K C=true
 sa:PySem.W.findIn K (.ref C) "__setattr__"=some (some (.builtin "object.__setattr__"))
theorem Cls.get {K:PySem.W.Frag} {C:Addr} (c:Cls K C) (f:Str):PySem.W.plainGet K C f=true:=c.pg
def NoAttr (K:PySem.W.Frag) (C:Addr) (f:Str):Prop:=PySem.W.findIn K (.ref C) f=some none
theorem NoAttr.taker {K:PySem.W.Frag} {C:Addr} {f:Str} (n:NoAttr K C f):PySem.W.takerIn K C f=some none:=by
 unfold PySem.W.takerIn
 rw [show PySem.W.findIn K (.ref C) f=some none from n]
 rfl
structure Con (K:PySem.W.Frag) (C:Addr) (f:Str) (v:V) (u:Value):Prop where
 at_:PySem.W.findIn K (.ref C) f=some (some u)
 rel:RelV v u
 get:PySem.W.specialIn K u "__get__"=some none
 cp:PySem.W.copiedNames.contains f=false
structure Meth (K:PySem.W.Frag) (C:Addr) (m:Str) (f:Addr):Prop where
 at_:PySem.W.findIn K (.ref C) m=some (some (.ref f))
 fn:PySem.W.isFn K (.ref f)=true
 kp:PySem.W.keepIn K (.ref f)=true
section
variable {X:Cx} {pins:List (Addr×Obj)} {σ:St} {H:Hp} {s:Shared} {a C dx:Addr} {fs:List (Str×V)} {f:Str} {v:V} {A:Around} {E:Value->Shared->Prop}
theorem getattr_ok {b:Bool} {Q:Value->Shared->Prop} (I:Inv X pins σ H s) (e:H a=some (.ins C dx fs)) (c:Cls X.K C) (n:NoAttr X.K C f) (l:fs.lookup f=some v)
  (h:∀u s',Inv X pins σ H s'->RelV v u->Q u s'):wpAny (model X.prog X.w) A (getAttr (.ref a) f b) Q E s:=by
 obtain ⟨mA,O,r,_,_,_⟩:=ins_get I.hok e
 obtain ⟨u,hu,ru⟩:=RelO.some_of (v:=v) (o:=mA f) (by rw [←l];exact r f)
 exact get_map I.kIn O (c.get f) c.hd n hu (handed_of ru) (h u _ (I.tok _) ru)
theorem getmeth_ok {m:Str} {g:Addr} {pl:Sem Bool} {Q:Value×List Value->Shared->Prop} (I:Inv X pins σ H s) (e:H a=some (.ins C dx fs)) (c:Cls X.K C) (k:Meth X.K C m g) (l:fs.lookup m=none)
  (h:Q (.ref g,[.ref a]) s):wpAny (model X.prog X.w) A (getMethod (.ref a) m pl) Q E s:=by
 obtain ⟨mA,O,r,_,_,_⟩:=ins_get I.hok e
 have hn:mA m=none:=RelO.none_of (by rw [←l];exact r m)
 exact get_meth I.kIn O (c.get m) k.at_ k.fn hn h
theorem setattr_ok {y:V} {u:Value} {Q:Unit->Shared->Prop} (I:Inv X pins σ H s) (e:H a=some (.ins C dx fs)) (c:Cls X.K C) (n:NoAttr X.K C f) (hl:fs.length < 1000) (ry:RelV y u)
  (h:∀s',Inv X pins σ (upd H a (.ins C dx (putF f y fs))) s'->Q () s'):wpAny (model X.prog X.w) A (setAttr (.ref a) f u) Q E s:=by
 obtain ⟨mA,O,r,wi,_,ho⟩:=ins_get I.hok e
 have hz:(fs.map (·.1)).length<=sizeLine:=by rw [List.length_map,sizeLine_eq];omega
 refine set_map I.kIn O c.sa c.po n.taker c.hd wi hz fun h' O' sb=>h _ ?_
 have hd:∃o,h'.get? dx=some o:=let ⟨o,_,_,e',_⟩:=O'.ns;⟨o,e'⟩
 refine I.write (x:=a) (e:=dx) (by rw [e];exact True.intro) (.inr ho) (fun b q hb z=>(sb.2 b hb).trans z) hd ?_
 refine ⟨by rw [upd_ne O.ne];exact ho,?_,O.ne,O'.obj,_,O'.ns,fun g=>?_,fun g hg=>?_⟩
 ·have:=length_putF f y fs;omega
 ·show RelO ((putF f y fs).lookup g) (if g=f then some u else mA g)
  rw [lookup_putF]
  by_cases q:g=f
  ·rw [if_pos q,if_pos q];exact ry
  ·rw [if_neg q,if_neg q];exact r g
 ·by_cases q:g=f
  ·rw [q];exact (keys_putF f y fs).1
  ·refine (keys_putF f y fs).2 g (wi g fun z=>hg ?_)
   show (if g=f then some u else mA g)=none
   rw [if_neg q];exact z
theorem Inv.made (I:Inv X pins σ H s):Inv X pins σ (upd (upd H s.heap.objs.size (.own (s.heap.objs.size+1))) (s.heap.objs.size+1) (.ins C s.heap.objs.size []))
  {s with heap:=(s.heap.push PySem.W.emptyDict).push (PySem.W.instObj C s.heap.objs.size)}:=by
 have e1:(s.heap.push PySem.W.emptyDict).get? s.heap.objs.size=some PySem.W.emptyDict:=Heap.get?_push_size s.heap rfl
 have e2:((s.heap.push PySem.W.emptyDict).push (PySem.W.instObj C s.heap.objs.size)).get? (s.heap.objs.size+1)=some (PySem.W.instObj C s.heap.objs.size):=by
  have:=Heap.get?_push_size (s.heap.push PySem.W.emptyDict) (o:=PySem.W.instObj C s.heap.objs.size) rfl
  rwa [Heap.size_push] at this
 have e3:(s.heap.push PySem.W.emptyDict).Ns s.heap.objs.size (fun _=>none):=⟨PySem.W.emptyDict, #[],_,e1,rfl,(fun e he=>absurd he (by simp)),fun _=>rfl⟩
 have I1:=I.laid (a:=s.heap.objs.size) (o:= .own (s.heap.objs.size+1)) (h':=s.heap.push PySem.W.emptyDict) (t':=s.toks) (fun b u q=>Heap.get?_push_of_some _ q) (Nat.le_refl _) ⟨_,e1⟩
 refine I1.laid (a:=s.heap.objs.size+1) (o:= .ins C s.heap.objs.size []) (t':=s.toks) (fun b u q=>Heap.get?_push_of_some _ q) (Nat.le_of_eq (Heap.size_push _ _)) ?_
 have ne:s.heap.objs.size≠s.heap.objs.size+1:=Nat.ne_of_lt (Nat.lt_succ_self _)
 refine ⟨by rw [upd_ne ne,upd_same],Nat.zero_le _,ne,e2,fun _=>none,(Heap.Ns1.of_empty e3).at fun o q=>Heap.get?_push_of_some _ q,fun _=>True.intro,fun y hy=>absurd rfl hy⟩
theorem attr_of {prog:Program} {w:World} {env:Env} {e:Expr} {f:Str} {pos:Pos} {s:Shared} {Q:Value->Shared->Prop} (hb:attributeBase e f env (eval e env)=eval e env)
  (h:wpAny (model prog w) A (eval e env) (fun o s₁=>wpAny (model prog w) A (getAttr o f true) Q E s₁) E s):wpAny (model prog w) A (eval (.Attribute e f pos) env) Q E s:=
 Attribute_any_ h (by rw [arm_eval_Attribute,hb])
end
def tFld (K:PySem.W.Frag) (ta:TE) (f:Str):TE:=fun σ H Q=>ta σ H fun x H1=>∃a C dx fs v,x= .ref a/\H1 a=some (.ins C dx fs)/\Cls K C/\NoAttr K C f/\fs.lookup f=some v/\Q v H1
def sFld (K:PySem.W.Frag) (ta tv:TE) (f:Str):TS:=fun D σ H=>tv σ H fun y H1=>ta σ H1 fun x H2=>∃a C dx fs,x= .ref a/\H2 a=some (.ins C dx fs)/\Cls K C/\NoAttr K C f/\fs.length < 1000/\
 D.nx σ (upd H2 a (.ins C dx (putF f y fs)))
def InOp (X:Cx) (op:Operator) (rd:V->V->Hp->VK->Prop):Prop:=
 ∀(pins:List (Addr×Obj)) (s:Shared) (σ:St) (H:Hp) (x y:V) (u v:Value) (Q:VK),Inv X pins σ H s->RelV x u->RelV y v->rd x y H Q->wpAny (model X.prog X.w) X.A (inplaceOp op u v) (EP X pins σ Q) X.xe s
def sFldAug (K:PySem.W.Frag) (ta tv:TE) (rd:V->V->Hp->VK->Prop) (f:Str):TS:=fun D σ H=>ta σ H fun x H1=>∃a C dx fs v,x= .ref a/\H1 a=some (.ins C dx fs)/\Cls K C/\NoAttr K C f/\fs.lookup f=some v/\
 tv σ H1 fun y H2=>rd v y H2 fun z H3=>∃dx' fs',H3 a=some (.ins C dx' fs')/\fs'.length < 1000/\D.nx σ (upd H3 a (.ins C dx' (putF f z fs')))
section
variable {X:Cx} {o e value:Expr} {f:Str} {pos pos' tpos:Pos} {ta tv:TE}
theorem pe_fld (he:PE X e ta) (hb:attributeBase e f X.env (eval e X.env)=eval e X.env):PE X (.Attribute e f pos) (tFld X.K ta f):=by
 intro pins s σ H Q I h
 refine attr_of hb (thn (he pins s σ H _ I h) fun u s1 ⟨x,H1,I1,rx,a,C,dx,fs,v,ex,ea,c,n,l,q⟩=>?_)
 subst ex
 obtain rfl:u=Value.ref a:=rx
 exact getattr_ok I1 ea c n l fun u' s2 I2 ru=>⟨v,H1,I2,ru,q⟩
theorem ps_fld (ha:PE X o ta) (hv:PE X value tv) (hs:swapsWith value (some (.Attribute o f pos')) pos.line X.env=pure false):PS X (.Assign [.Attribute o f pos'] value pos) (sFld X.K ta tv f):=by
 intro pins s σ H D I h
 refine plainObj_wpAny_Assign_Attribute (thn (hv pins s σ H _ I h) fun u s1 ⟨y,H1,I1,ry,q⟩=>thn (ha pins s1 σ H1 _ I1 q) fun ov s2 ⟨x,H2,I2,rx,a,C,dx,fs,ex,ea,c,n,l,q2⟩=>?_) hs
 subst ex
 obtain rfl:ov=Value.ref a:=rx
 exact setattr_ok I2 ea c n l ry fun s3 I3=>⟨σ,_,I3,q2⟩
theorem ps_fldaug {op:Operator} {rd:V->V->Hp->VK->Prop} (ha:PE X o ta) (hv:PE X value tv) (hop:InOp X op rd):PS X (.AugAssign (.Attribute o f tpos) op value pos) (sFldAug X.K ta tv rd f):=by
 intro pins s σ H D I h
 refine wpAny_AugAssign_AttributeAny (thn (ha pins s σ H _ I h) fun ov s1 ⟨x,H1,I1,rx,a,C,dx,fs,v,ex,ea,c,n,l,q⟩=>?_)
 subst ex
 obtain rfl:ov=Value.ref a:=rx
 refine getattr_ok I1 ea c n l fun u s2 I2 ru=>thn (hv pins s2 σ H1 _ I2 q) fun w3 s3 ⟨y,H2,I3,ry,q3⟩=>thn (hop pins s3 σ H2 v y u w3 _ I3 ru ry q3) fun w4 s4 ⟨z,H3,I4,rz,dx',fs',ea',l',q4⟩=>?_
 exact setattr_ok I4 ea' c n l' rz fun s5 I5=>⟨σ,_,I5,q4⟩
def rAdd:V->V->Hp->VK->Prop:=fun x y H Q=>∃i j,x= .int i/\y= .int j/\Q (.int (i+j)) H
theorem in_add:InOp X .Add rAdd:=by
 rintro pins s σ H x y u v Q I rx ry ⟨i,j,rfl,rfl,q⟩
 obtain ⟨t,rfl⟩:=(show ∃t,u=Value.int i t from rx)
 obtain ⟨t',rfl⟩:=(show ∃t',v=Value.int j t' from ry)
 exact PyProof.Rows.iadd_int ⟨.int (i+j),H,I.tok _,⟨_,rfl⟩,q⟩
end
section
variable {X:Cx} {pins:List (Addr×Obj)} {σ:St} {H:Hp} {s:Shared} {A:Around} {E:Value->Shared->Prop} {Q:Value->Shared->Prop} {c:Value} {b:Bool}
inductive TyOf (K:PySem.W.Frag) (H:Hp):V->Value->Prop where
 |non:TyOf K H .non (.type "NoneType")
 |bl (x:Bool):TyOf K H (.bl x) (.type "bool")
 |int (i:Int):TyOf K H (.int i) (.type "int")
 |str (x:Str):TyOf K H (.str x) (.type "str")
 |flt (x:UInt64):TyOf K H (.flt x) (.type "float")
 |lst {a:Addr} {xs:List V} (e:H a=some (.lst xs)):TyOf K H (.ref a) (.type "list")
 |frz {a:Addr} {o:Obj} {xs:List V} (e:H a=some (.frz o (.lst xs))):TyOf K H (.ref a) (.type "list")
 |tup {a:Addr} {xs:List V} (e:H a=some (.tup xs)):TyOf K H (.ref a) (.type "tuple")
 |dK {a:Addr} {kvs:List (Key×V)} (e:H a=some (.dK kvs)):TyOf K H (.ref a) (.type "dict")
 |dT {a:Addr} {kvs:List (List Key×V)} (e:H a=some (.dT kvs)):TyOf K H (.ref a) (.type "dict")
 |ins {a C dx:Addr} {fs:List (Str×V)} (e:H a=some (.ins C dx fs)) (cl:Cls K C) (ha:PySem.W.findIn K (.ref C) "__class__"=some (some (.builtin "object.__class__")))
   (hn:PySem.W.specialIn K (.builtin "object.__class__") "__get__"=some (some (.builtin "getset_descriptor.__get__"))) (htk:PySem.W.takesIn K (.builtin "object.__class__")=some true)
   (hm:PySem.W.mroIn K C (.type "object")=some true):TyOf K H (.ref a) (.ref C)
end
end L2
namespace L2
open PySem PySem.Spec PyProof.Rows
structure Room (k:Nat) (A:Around):Prop where
 hd:A.handled=none
 dp:A.depth+3*k+5 < recursionLimit
 un:A.units+16*k+200 < cLine
theorem Room.mono {j k:Nat} {A:Around} (r:Room k A) (h:j<=k):Room j A:=⟨r.hd,by have:=r.dp;omega,by have:=r.un;omega⟩
theorem Room.deeper {k:Nat} {A:Around} (r:Room (k+1) A) (env:Env):Room k (A.deeper env):=
 ⟨r.hd,by have:=r.dp;show A.depth+1+3*k+5 < _;omega,by have:=r.un;show A.units+3+16*k+200 < _;omega⟩
theorem make_depth {A:Around} {C:Addr} {us:List Value} {kw:List (Str×Value)}:(A.under (.builtin "type.__call__" ⟨.ref C::us,kw⟩)).depth=A.depth+1:=by
 first|rfl|simp [Around.under,Code.weight,Code.isCreation,Code.isGuard,Code.isCaller,Code.frames,Code.isFrame,guardIds]
theorem make_units {A:Around} {C:Addr} {us:List Value} {kw:List (Str×Value)}:(A.under (.builtin "type.__call__" ⟨.ref C::us,kw⟩)).units=A.units+1:=by
 first|rfl|simp [Around.under,Code.cUnits,Code.frames,Code.isFrame]
theorem Room.make {k:Nat} {A:Around} (r:Room (k+1) A) (C:Addr) (us:List Value) (kw:List (Str×Value)):Room k (A.under (.builtin "type.__call__" ⟨.ref C::us,kw⟩)):=
 ⟨r.hd,by have:=r.dp;rw [make_depth];omega,by have:=r.un;rw [make_units];omega⟩
theorem Room.depth {k:Nat} {A:Around} (r:Room k A):A.depth < recursionLimit:=by have:=r.dp;omega
theorem Room.units {k:Nat} {A:Around} (r:Room k A):A.units+64 < cLine:=by have:=r.un;omega
def tNil:TA:=fun _ H Q=>Q [] H
def tCons (ta:TE) (tr:TA):TA:=fun σ H Q=>ta σ H fun x H1=>tr σ H1 fun xs H2=>Q (x::xs) H2
section
variable {X:Cx} {e:Expr} {es:List Expr} {te:TE} {t:TA} {pos:Pos}
theorem pa_nil:PA X [] tNil:=fun _ _ _ _ H Q I h=>Calls.spliced_nil ⟨[],H,I,.nil,h⟩
theorem pa_cons (ha:PE X e te) (hr:PA X es t) (hs:starEach (e::es) X.env=(false,eval e X.env)::starEach es X.env:=by rfl):PA X (e::es) (tCons te t):=by
 intro pos pins s σ H Q I h
 rw [hs]
 show wpAny _ _ (spliced ((false,eval e X.env)::backTo pos (starEach es X.env))) _ _ s
 refine Calls.spliced_cons (thn (ha pins s σ H _ I h) fun u s1 ⟨x,H1,I1,r1,q1⟩=>?_)
 exact thn (hr pos pins s1 σ H1 _ I1 q1) fun us s2 ⟨xs,H2,I2,r2,q2⟩=>⟨x::xs,H2,I2,.cons r1 r2,q2⟩
def tTup (t:TA):TE:=fun σ H Q=>t σ H fun xs H1=>xs.length<=sizeLine/\∀p,H1 p=none->Q (.ref p) (upd H1 p (.tup xs))
def tLst (t:TA):TE:=fun σ H Q=>t σ H fun xs H1=>xs.length<=sizeLine/\∀p,H1 p=none->Q (.ref p) (upd H1 p (.lst xs))
theorem pe_tup {x1} (h:PA X es t):PE X (.Tuple es x1 pos) (tTup t):=by
 intro pins s σ H Q I hq
 refine wpAny_Tuple_spliced (thn (h pos pins s σ H _ I hq) fun us s1 ⟨xs,H1,I1,r,z,q⟩=>⟨by rw [←r.length];exact z,?_⟩)
 have hf:H1 s1.heap.objs.size=none:=I1.hok.fresh (Nat.le_refl _)
 refine ⟨.ref s1.heap.objs.size,upd H1 s1.heap.objs.size (.tup xs),I1.laid (t':=s1.toks) (fun b u e=>Heap.get?_push_of_some _ e) (Nat.le_refl _) ?_,rfl,q _ hf⟩
 exact ⟨z,us,r,⟨_,Heap.get?_push_size _ rfl,rfl,_,rfl⟩⟩
theorem pe_lst (h:PA X es t):PE X (.List es pos) (tLst t):=by
 intro pins s σ H Q I hq
 refine wpAny_List_spliced (thn (h pos pins s σ H _ I hq) fun us s1 ⟨xs,H1,I1,r,z,q⟩=>⟨by rw [←r.length];exact z,?_⟩)
 have hf:H1 s1.heap.objs.size=none:=I1.hok.fresh (Nat.le_refl _)
 refine ⟨.ref s1.heap.objs.size,upd H1 s1.heap.objs.size (.lst xs),I1.laid (t':=s1.toks) (fun b u e=>Heap.get?_push_of_some _ e) (Nat.le_refl _) ?_,rfl,q _ hf⟩
 exact ⟨z,us,0,r,Heap.get?_push_size _ rfl⟩
end
abbrev Sp:=List V->Hp->VK->XK->Prop
abbrev CXT:=List Env->Hp->Shared->XK->Value->Shared->Prop
structure Env0 (P:Program) (w:World) (K:PySem.W.Frag) (mg:Str->Option Value) (base:Heap) (A:Around) (outer:List Env) (s:Shared) (H:Hp):Prop where
 frames:A.frames=some outer
 mod:Mod K mg base
 bs:∀b o,base.get? b=some o->s.heap.get? b=some o/\H b=none
 bsz:base.objs.size<=s.heap.objs.size
 funs:s.heap.FunFrames base outer
 frf:∀b∈frs outer,H b=none
 hok:HOk P w H s.heap
 bare:AllBare s.gens
def CE (outer:List Env) (P:Program) (w:World) (H:Hp) (s:Shared) (Q:VK) (u:Value) (s':Shared):Prop:=
 ∃v H',s'.os=s.os/\AllBare s'.gens/\Un (frs outer) [] H H' s.heap s'.heap/\HOk P w H' s'.heap/\RelV v u/\Q v H'
def CR (CX:CXT) (outer:List Env) (P:Program) (w:World) (H:Hp) (s:Shared) (Q:VK) (E:XK) (r:Result) (s':Shared):Prop:=
 match r with
 | .ok (.ret u)=>CE outer P w H s Q u s'
 | .ok _=>False
 | .error e=>CX outer H s E e s'
structure FnOk (P:Program) (w:World) (K:PySem.W.Frag) (mg:Str->Option Value) (base:Heap) (CX:CXT) (k:Nat) (f:Addr) (fd:FuncData) (ps:List Str) (sp:Sp):Prop where
 len:∀vs H Q E,sp vs H Q E->vs.length=ps.length
 run:∀(A:Around) (outer:List Env) (s:Shared) (H:Hp) (args:Args) (us:List Value) (vs:List V) (Q:VK) (E:XK),Room k A->Env0 P w K mg base A outer s H->BindsTo s fd args (ps.zip us)->Vals vs us->sp vs H Q E->
  codeAny (model P w) A (.call (.ref f) args) (CR CX outer P w H s Q E) s
theorem FnOk.mono {P:Program} {w:World} {K:PySem.W.Frag} {mg:Str->Option Value} {base:Heap} {CX:CXT} {j k:Nat} {f:Addr} {fd:FuncData} {ps:List Str} {sp:Sp} (F:FnOk P w K mg base CX j f fd ps sp) (h:j<=k):
  FnOk P w K mg base CX k f fd ps sp:=⟨F.len,fun A outer s H args us vs Q E hr=>F.run A outer s H args us vs Q E (hr.mono h)⟩
theorem Env0.make {P:Program} {w:World} {K:PySem.W.Frag} {mg:Str->Option Value} {base:Heap} {A:Around} {outer:List Env} {s:Shared} {H:Hp} (e:Env0 P w K mg base A outer s H) (C:Addr) (us:List Value) (kw:List (Str×Value)):
  Env0 P w K mg base (A.under (.builtin "type.__call__" ⟨.ref C::us,kw⟩)) outer s H:=⟨by first|exact e.frames|(simpa [Around.under,Code.envs,Code.isFrame,pushEnvs] using e.frames),e.mod,e.bs,e.bsz,e.funs,e.frf,e.hok,e.bare⟩
section
variable {X:Cx} {pins:List (Addr×Obj)} {σ:St} {H:Hp} {s s':Shared}
theorem Inv.env0 (I:Inv X pins σ H s):Env0 X.prog X.w X.K X.mg X.base X.A X.stack s H:=
 ⟨I.ok.frames,I.ok.mod,I.bs,Nat.le_trans I.ok.bsz I.sz,I.stack,I.stkFree,I.hok,I.bare⟩
theorem Inv.after {Q:VK} {u:Value} (I:Inv X pins σ H s) (h:CE X.stack X.prog X.w H s Q u s'):EP X pins σ Q u s':=by
 obtain ⟨v,H',os,bare,un,hok,r,q⟩:=h
 obtain ⟨hh,g,d,t,os'⟩:=s'
 obtain rfl:os'=s.os:=os
 exact ⟨v,H',I.call (h':=hh) (g':=g) (d':=d) (t':=t) (ch:= []) un hok bare (fun b z=>absurd z (by simp)),r,q⟩
end
def tCall (sp:Sp) (dvs:List V) (E:XK) (t:TA):TE:=fun σ H Q=>t σ H fun vs H1=>sp (vs++dvs) H1 Q E
def tMeth (C:Addr) (m:Str) (sp:Sp) (dvs:List V) (E:XK) (ta:TE) (t:TA):TE:=fun σ H Q=>ta σ H fun x H1=>∃a dx fs,x= .ref a/\H1 a=some (.ins C dx fs)/\fs.lookup m=none/\
 t σ H1 fun vs H2=>sp (x::(vs++dvs)) H2 Q E
def tMake (C:Addr) (sp:Sp) (dvs:List V) (E:XK) (t:TA):TE:=fun σ H Q=>t σ H fun vs H1=>∀x dx,H1 x=none->H1 dx=none->dx≠x->
 sp (.ref x::(vs++dvs)) (upd (upd H1 dx (.own x)) x (.ins C dx [])) (fun v H2=>v= .non/\Q (.ref x) H2) E
def Binds (K:PySem.W.Frag) (fd:FuncData) (ps:List Str) (ds:List Value):Prop:=
 ∀(s:Shared) (us:List Value),K.In s.heap->(us++ds).length=ps.length->BindsTo s fd ⟨us,[]⟩ (ps.zip (us++ds))
theorem Binds.all {K:PySem.W.Frag} {fd:FuncData} {ps:List Str} (h:∀us:List Value,us.length=ps.length->bindArgs fd ⟨us,[]⟩=pure (ps.zip us)):Binds K fd ps []:=fun s us _ hl=>by
 rw [List.append_nil] at hl⊢
 exact .of_eq (h us hl)
def Passes (CX:CXT) (X:Cx) (E:XK):Prop:=∀(pins:List (Addr×Obj)) (σ:St) (H:Hp) (s:Shared) (e:Value) (s':Shared),Inv X pins σ H s->CX X.stack H s E e s'->X.xe e s'
section
variable {X:Cx} {CX:CXT} {k:Nat} {f C:Addr} {fd:FuncData} {ps:List Str} {sp:Sp} {dvs:List V} {ds:List Value} {E:XK} {x m:Str} {p pos apos:Pos} {e o:Expr} {es:List Expr} {ta:TE} {t:TA}
theorem run_fn {pins:List (Addr×Obj)} {σ:St} {H:Hp} {s:Shared} {Q:VK} {us:List Value} {vs:List V} (F:FnOk X.prog X.w X.K X.mg X.base CX k f fd ps sp) (hr:Room k X.A) (hb:Binds X.K fd ps ds) (hd:Vals dvs ds) (hx:Passes CX X E)
  (I:Inv X pins σ H s) (r:Vals vs us) (h:sp (vs++dvs) H Q E):wpAny (model X.prog X.w) X.A (call (.ref f) us) (EP X pins σ Q) X.xe s:=by
 have r2:Vals (vs++dvs) (us++ds):=r.append hd
 have hl:(us++ds).length=ps.length:=by rw [←r2.length];exact F.len _ _ _ _ h
 refine wpAny_call (codeAny_mono (F.run X.A X.stack s H ⟨us,[]⟩ (us++ds) (vs++dvs) Q E hr I.env0 (hb s us I.kIn hl) r2 h) fun r s' hq=>?_)
 cases r with
 |error e=>exact hx pins σ H s e s' I hq
 |ok fl=>
  cases fl with
  |ret u=>exact I.after hq
  |next=>exact False.elim hq
  |brk=>exact False.elim hq
  |cont=>exact False.elim hq
theorem pe_call (F:FnOk X.prog X.w X.K X.mg X.base CX k f fd ps sp) (hr:Room k X.A) (hg:Gl X x) (hm:X.mg x=some (.ref f)) (hk:PySem.W.keepIn X.K (.ref f)=true) (hb:Binds X.K fd ps ds) (hd:Vals dvs ds) (hx:Passes CX X E)
  (ha:PA X (e::es) t) (hdb:(x==("__debug__":Str))=false:=by decide) (he:starEach (e::es) X.env=(false,eval e X.env)::starEach es X.env:=by rfl) (hpl:(backTo pos (starEach es X.env)).any (·.1)=false:=by rfl):
  PE X (.Call (.Name x p) (e::es) [] pos) (tCall sp dvs E t):=by
 intro pins s σ H Q I h
 refine wpAny_Call_Name_kw (ld_glob I hg hm ?_ hdb)
 refine PySem.W.callWith_K (h₀:=X.base) I.ok.mod.kin hk (thn (ha pos pins s σ H _ I h) fun us s1 ⟨vs,H1,I1,r,q⟩=>⟨I1.kIn,?_⟩) he hpl
 exact run_fn F hr hb hd hx I1 r q
theorem pe_meth {pl : Sem Bool} (he : PE X o ta) (c : Cls X.K C) (hm : Meth X.K C m f) (F : FnOk X.prog X.w X.K X.mg X.base CX k f fd ps sp) (hr : Room k X.A) (hb : Binds X.K fd ps ds) (hd : Vals dvs ds) (hx : Passes CX X E) (ha : PA X (e :: es) t)
  (hst : starEach (e :: es) X.env = (false, eval e X.env) :: starEach es X.env := by rfl) (hpl : (backTo pos (starEach es X.env)).any (·.1) = false := by rfl)
  (ht : eval (.Call (.Attribute o m apos) (e :: es) [] pos) X.env = (do
   let ov ← eval o X.env
   standAt apos.atName
   let (f, first) ← holding [ov] (getMethod ov m pl)
   callWith pos f first (backTo pos (starEach (e :: es) X.env)) (backToKw pos (keywordEach [] X.env))) := by rfl) :
  PE X (.Call (.Attribute o m apos) (e :: es) [] pos) (tMeth C m sp dvs E ta t) := by
 intro pins s σ H Q I h
 refine PySem.W.methodCall_KW (pl := pl) (thn (he pins s σ H _ I h) fun u s1 ⟨x, H1, I1, rx, a, dx, fs, ex, ea, l, q⟩ => ?_) ht
 subst ex
 obtain rfl : u = Value.ref a := rx
 refine getmeth_ok I1 ea c hm l ?_
 refine PySem.W.callWith_K (first := [.ref a]) (h₀ := X.base) I.ok.mod.kin hm.kp (thn (ha pos pins s1 σ H1 _ I1 q) fun us s2 ⟨vs, H2, I2, r, q2⟩ => ⟨I2.kIn, ?_⟩) hst hpl
 exact run_fn (us := .ref a :: us) (vs := .ref a :: vs) F hr hb hd hx I2 (.cons rfl r) q2
theorem pe_meth0 {pl : Sem Bool} (he : PE X o ta) (c : Cls X.K C) (hm : Meth X.K C m f) (F : FnOk X.prog X.w X.K X.mg X.base CX k f fd ps sp) (hr : Room k X.A) (hb : Binds X.K fd ps ds) (hd : Vals dvs ds) (hx : Passes CX X E)
  (ht : eval (.Call (.Attribute o m apos) [] [] pos) X.env = (do
   let ov ← eval o X.env
   standAt apos.atName
   let (f, first) ← holding [ov] (getMethod ov m pl)
   callWith pos f first (backTo pos (starEach [] X.env)) (backToKw pos (keywordEach [] X.env))) := by rfl) :
  PE X (.Call (.Attribute o m apos) [] [] pos) (tMeth C m sp dvs E ta tNil) := by
 intro pins s σ H Q I h
 refine PySem.W.methodCall_KW (pl := pl) (thn (he pins s σ H _ I h) fun u s1 ⟨x, H1, I1, rx, a, dx, fs, ex, ea, l, q⟩ => ?_) ht
 subst ex
 obtain rfl : u = Value.ref a := rx
 refine getmeth_ok I1 ea c hm l ?_
 exact PySem.W.callWith_K0 (first := [.ref a]) I1.kIn hm.kp (run_fn (us := [.ref a]) (vs := [.ref a]) F hr hb hd hx I1 (.cons rfl .nil) q)
structure Mk (K:PySem.W.Frag) (C f:Addr):Prop where
 makes:PySem.W.makesIn K C=true
 init:PySem.W.findIn K (.ref C) "__init__"=some (some (.ref f))
 fn:PySem.W.isFn K (.ref f)=true
 kp:PySem.W.keepIn K (.ref C)=true
theorem run_make {pins:List (Addr×Obj)} {σ:St} {H:Hp} {s:Shared} {Q:VK} {us:List Value} {vs:List V} (M:Mk X.K C f) (F:FnOk X.prog X.w X.K X.mg X.base CX k f fd ps sp) (hr:Room (k+1) X.A) (hb:Binds X.K fd ps ds) (hd:Vals dvs ds)
  (hx:Passes CX X E) (I:Inv X pins σ H s) (r:Vals vs us)
  (h:∀x dx,H x=none->H dx=none->dx≠x->sp (.ref x::(vs++dvs)) (upd (upd H dx (.own x)) x (.ins C dx [])) (fun v H2=>v= .non/\Q (.ref x) H2) E):
  wpAny (model X.prog X.w) X.A (call (.ref C) us) (EP X pins σ Q) X.xe s:=by
 have hq:=h (s.heap.objs.size+1) s.heap.objs.size (I.hok.fresh (Nat.le_succ _)) (I.hok.fresh (Nat.le_refl _)) (Nat.ne_of_lt (Nat.lt_succ_self _))
 have I2:=Inv.made (C:=C) I
 have r2:Vals (V.ref (s.heap.objs.size+1)::(vs++dvs)) (Value.ref (s.heap.objs.size+1)::(us++ds)):= .cons rfl (r.append hd)
 have hl:(Value.ref (s.heap.objs.size+1)::us++ds).length=ps.length:=by
  have e:=r2.length
  rw [F.len _ _ _ _ hq] at e
  exact e.symm
 refine wpAny_call (make_map (f:=f) I.kIn M.makes M.init (beq_iff_eq.mp M.fn) (codeAny_mono (F.run _ X.stack _ _ ⟨Value.ref (s.heap.objs.size+1)::us,[]⟩ (Value.ref (s.heap.objs.size+1)::(us++ds)) _ _ E (hr.make C us [])
  (I2.env0.make C us []) (hb _ (Value.ref (s.heap.objs.size+1)::us) I2.kIn hl) r2 hq) fun r s' hq'=>?_))
 cases r with
 |error e=>exact hx pins σ _ _ e s' I2 hq'
 |ok fl=>
  cases fl with
  |ret u=>
   obtain ⟨v,H',I3,rv,ev,q3⟩:=I2.after hq'
   subst ev
   exact ⟨rv,⟨V.ref (s.heap.objs.size+1),H',I3,rfl,q3⟩⟩
  |next=>exact False.elim hq'
  |brk=>exact False.elim hq'
  |cont=>exact False.elim hq'
theorem pe_make (M:Mk X.K C f) (F:FnOk X.prog X.w X.K X.mg X.base CX k f fd ps sp) (hr:Room (k+1) X.A) (hg:Gl X x) (hm:X.mg x=some (.ref C)) (hb:Binds X.K fd ps ds) (hd:Vals dvs ds) (hx:Passes CX X E)
  (ha:PA X (e::es) t) (hdb:(x==("__debug__":Str))=false:=by decide) (he:starEach (e::es) X.env=(false,eval e X.env)::starEach es X.env:=by rfl) (hpl:(backTo pos (starEach es X.env)).any (·.1)=false:=by rfl):
  PE X (.Call (.Name x p) (e::es) [] pos) (tMake C sp dvs E t):=by
 intro pins s σ H Q I h
 refine wpAny_Call_Name_kw (ld_glob I hg hm ?_ hdb)
 refine PySem.W.callWith_K (h₀:=X.base) I.ok.mod.kin M.kp (thn (ha pos pins s σ H _ I h) fun us s1 ⟨vs,H1,I1,r,q⟩=>⟨I1.kIn,?_⟩) he hpl
 exact run_make M F hr hb hd hx I1 r q
end
def PK (X:Cx) (kws:List Keyword) (t:TA):Prop:=
 ∀(pos:Pos) (pins:List (Addr×Obj)) (s:Shared) (σ:St) (H:Hp) (Q:List V->Hp->Prop),Inv X pins σ H s->t σ H Q->wpAny (model X.prog X.w) X.A (evalAll ((backToKw pos (keywordEach kws X.env)).map (·.2))) (AP X pins σ Q) X.xe s
section
variable {X:Cx} {CX:CXT} {k:Nat} {f C:Addr} {fd:FuncData} {ps ks:List Str} {sp:Sp} {E:XK} {x m:Str} {p pos apos kpos:Pos} {e o:Expr} {es:List Expr} {kws:List Keyword} {te ta:TE} {t tk:TA} {nm:Option Str}
theorem pk_nil:PK X [] tNil:=fun _ _ _ _ H Q I h=>wpAny_evalAll_nil ⟨[],H,I,.nil,h⟩
theorem pk_cons (ha:PE X e te) (hr:PK X kws t):PK X (⟨nm,e,kpos⟩::kws) (tCons te t):=by
 intro pos pins s σ H Q I h
 show wpAny _ _ (evalAll ((do let v ←eval e X.env;standAt pos;pure v)::(backToKw pos (keywordEach kws X.env)).map (·.2))) _ _ s
 refine wpAny_evalAll_cons (wpAny_bind (thn (ha pins s σ H _ I h) fun u s1 ⟨x,H1,I1,r1,q1⟩=>wpAny_bind (wpAny_standAt (wpAny_pure ?_))))
 exact thn (hr pos pins s1 σ H1 _ I1 q1) fun us s2 ⟨xs,H2,I2,r2,q2⟩=>⟨x::xs,H2,I2,.cons r1 r2,q2⟩
structure KBinds (K:PySem.W.Frag) (fd:FuncData) (ps ks:List Str) (g:List Value->List Value->List Value) (gV:List V->List V->List V):Prop where
 to:∀(s:Shared) (us ws:List Value),K.In s.heap->(g us ws).length=ps.length->BindsTo s fd ⟨us,ks.zip ws⟩ (ps.zip (g us ws))
 rel:∀{vs:List V} {us:List Value} {zs:List V} {ws:List Value},Vals vs us->Vals zs ws->Vals (gV vs zs) (g us ws)
variable {g:List Value->List Value->List Value} {gV:List V->List V->List V}
end
structure FnScope (N P:List Str) (sc:Scope):Prop where
 kind:sc.kind= .function
 co:sc.isCoroutine=false
 gen:sc.isGenerator=false
 nd:N.Nodup
 pre:N.take P.length=P
 par:∀x∈P,sc.names.lookup x=some .local∨sc.names.lookup x=some .cell
 nofree:∀y∈sc.names,y.2≠ .free
theorem bindL_out {kindOf:Str->Option NameKind} {x:Str}:∀{binds:List (Str×Value)} {m:Str->Option Value},(∀v,(x,v)∉binds)->bindL kindOf binds m x=m x
 | [],_,_=>rfl
 |(n,v)::r,m,h=>by
  unfold bindL
  rw [bindL_out fun w hw=>h w (List.mem_cons_of_mem _ hw)]
  split
  ·have:x≠n:=by rintro rfl;exact h v List.mem_cons_self
   simp [this]
  ·rfl
theorem bindC_out {kindOf:Str->Option NameKind} {x:Str}:∀{binds:List (Str×Value)} {m:Str->Option Value},(∀v,(x,v)∉binds)->bindC kindOf binds m x=m x
 | [],_,_=>rfl
 |(n,v)::r,m,h=>by
  unfold bindC
  rw [bindC_out fun w hw=>h w (List.mem_cons_of_mem _ hw)]
  split
  ·rfl
  ·have:x≠n:=by rintro rfl;exact h v List.mem_cons_self
   simp [this]
theorem bindL_get {kindOf:Str->Option NameKind} {x:Str} {v:Value}:∀{P:List Str} {vs:List Value} {i:Nat} {m:Str->Option Value},P.Nodup->P[i]? =some x->vs[i]? =some v->kindOf x=some .local->
  bindL kindOf (P.zip vs) m x=some v
 | [],_,_,_,_,h,_,_=>by simp at h
 |_::_,[],_,_,_,_,h,_=>by simp at h
 |p::P,w::vs,0,m,nd,h1,h2,hk=>by
  simp at h1 h2;subst h1;subst h2
  show bindL kindOf ((p,w)::P.zip vs) m p=_
  unfold bindL
  rw [bindL_out fun v hv=>(List.nodup_cons.mp nd).1 (List.of_mem_zip hv).1,if_pos hk]
  simp
 |p::P,w::vs,i+1,m,nd,h1,h2,hk=>by
  show bindL kindOf ((p,w)::P.zip vs) m x=_
  unfold bindL
  exact bindL_get (i:=i) (List.nodup_cons.mp nd).2 (by simpa using h1) (by simpa using h2) hk
theorem bindC_get {kindOf:Str->Option NameKind} {x:Str} {v:Value}:∀{P:List Str} {vs:List Value} {i:Nat} {m:Str->Option Value},P.Nodup->P[i]? =some x->vs[i]? =some v->kindOf x≠some .local->
  bindC kindOf (P.zip vs) m x=some v
 | [],_,_,_,_,h,_,_=>by simp at h
 |_::_,[],_,_,_,_,h,_=>by simp at h
 |p::P,w::vs,0,m,nd,h1,h2,hk=>by
  simp at h1 h2;subst h1;subst h2
  show bindC kindOf ((p,w)::P.zip vs) m p=_
  unfold bindC
  rw [bindC_out fun v hv=>(List.nodup_cons.mp nd).1 (List.of_mem_zip hv).1,if_neg hk]
  simp
 |p::P,w::vs,i+1,m,nd,h1,h2,hk=>by
  show bindC kindOf ((p,w)::P.zip vs) m x=_
  unfold bindC
  exact bindC_get (i:=i) (List.nodup_cons.mp nd).2 (by simpa using h1) (by simpa using h2) hk
def start (N:List Str) (vs:List V):St:=vs.map some++List.replicate (N.length - vs.length) none
def cxOf (CX:CXT) (P:Program) (w:World) (K:PySem.W.Frag) (mg:Str->Option Value) (base:Heap) (N:List Str) (qual:Str) (scope:Scope) (f:Addr) (cd:Value) (A:Around) (outer:List Env) (s:Shared) (H:Hp) (E:XK):Cx where
 prog:=P
 w:=w
 K:=K
 mg:=mg
 base:=base
 A:=A.deeper (envOfC qual scope s.heap.objs.size f cd)
 N:=N
 s_0:=s
 H_0:=H
 env:=envOfC qual scope s.heap.objs.size f cd
 outer:=outer
 stack:=envOfC qual scope s.heap.objs.size f cd::outer
 ex:= []
 calm:=true
 fn:=fun _=>true
 pn:= []
 xe:=fun e s'=>wpAny (model P w) (A.deeper (envOfC qual scope s.heap.objs.size f cd)) (leaving (envOfC qual scope s.heap.objs.size f cd) e) (fun _ s''=>CX outer H s E e s'') (fun e' s''=>CX outer H s E e' s'') s'
theorem cell_has {sc:Scope} {n:Nat} {x:Str} (h:sc.names.lookup x=some .cell):∃c,(cellsFrom n sc.names []).lookup x=some c:=by
 have q:=PySem.W.cellsFrom_some sc.names n [] (.inl h)
 exact Option.isSome_iff_exists.mp q
theorem inv_start {CX:CXT} {P:Program} {w:World} {K:PySem.W.Frag} {mg:Str->Option Value} {base:Heap} {N ps:List Str} {qual:Str} {scope:Scope} {f:Addr} {cd:Value} {A:Around} {outer:List Env} {s s1:Shared} {H:Hp} {E:XK} {us:List Value} {vs:List V}
  (S:FnScope N ps scope) (hd:A.handled=none) (e0:Env0 P w K mg base A outer s H) (hl:vs.length=ps.length) (r:Vals vs us)
  (x:InCallC s s.heap.objs.size (bindL (envOfC qual scope s.heap.objs.size f cd).kindOf (ps.zip us) fun _=>none) (cellsFrom (s.heap.objs.size+1) scope.names []) (bindC (envOfC qual scope s.heap.objs.size f cd).kindOf (ps.zip us) fun _=>none) s1):
  Inv (cxOf CX P w K mg base N qual scope f cd A outer s H E) [] (start N vs) H s1:=by
 have hpl:ps.length<=N.length:=by have:=congrArg List.length S.pre;rw [List.length_take] at this;omega
 obtain ⟨h1,tk,rfl,hk⟩:=x.done
 have noA:∀b:Addr,b∉(cxOf CX P w K mg base N qual scope f cd A outer s H E).ex:=fun b z=>absurd (show b∈([]:List Addr) from z) (by simp)
 refine ⟨⟨e0.mod,S.kind,rfl,rfl,Nat.le_refl _,fun y z c h1 h2=>?_,fun y hy=>?_,fun y c _ h=>?_,fun _=>hd,Around.frames_deeper e0.frames,.inr ⟨rfl,rfl⟩,fun b z=>absurd z (noA b),e0.bs,e0.bsz,fun b _ _=>noA b,fun b z=>absurd z (noA b),e0.funs,e0.frf⟩,
  rfl,e0.bare,Un.kept hk,⟨_,x.toInCall.ns,fun i y v h1 h2 h3=>?_⟩,fun y c h=>⟨_,x.cell y c h⟩,e0.hok.fresh (Nat.le_refl _),fun y c h=>?_,fun p hp=>absurd (show p∈([]:List (Addr×Obj)) from hp) (by simp),e0.hok.kept hk,?_⟩
 ·exact name_of_addr x.apart (PySem.mem_of_lookup h1) (PySem.mem_of_lookup h2)
 ·have hy:scope.names.lookup y=some .cell∨scope.names.lookup y=some .free:=hy
  rcases hy with hy|hy
  ·exact cell_has hy
  ·exact absurd rfl (S.nofree _ (PySem.mem_of_lookup hy))
 ·exact Nat.le_of_lt (x.above y c (PySem.mem_of_lookup h))
 ·have hi:i < vs.length:=by
   unfold start at h2
   by_cases hi:i < vs.length
   ·exact hi
   ·rw [List.getElem?_append_right (by simpa using hi)] at h2
    rw [List.getElem?_replicate] at h2
    split at h2<;>cases h2
  have ha:vs[i]? =some v:=by
   unfold start at h2
   rw [List.getElem?_append_left (by simpa using hi),List.getElem?_map] at h2
   cases e:vs[i]? with
   |none=>rw [e] at h2;cases h2
   |some a=>rw [e] at h2;cases h2;rfl
  obtain ⟨u,hu,rv⟩:=r.get ha
  have hp:ps[i]? =some y:=by
   rw [←S.pre,List.getElem?_take_of_lt (by omega)];exact h1
  have ndP:ps.Nodup:=by rw [←S.pre];exact S.nd.sublist (List.take_sublist _ _)
  refine ⟨u,rv,?_⟩
  rcases S.par y (List.mem_of_getElem? hp) with k|k
  ·exact .inl ⟨k,bindL_get ndP hp hu k⟩
  ·obtain ⟨c,e⟩:=cell_has (n:=s.heap.objs.size+1) k
   refine .inr ⟨.inl k,c,e,?_⟩
   have q:=x.cell y c e
   rw [bindC_get ndP hp hu (by show scope.names.lookup y≠_;rw [k];decide)] at q
   exact q
 ·exact e0.hok.fresh (Nat.le_of_lt (x.above y c (PySem.mem_of_lookup h)))
 ·unfold start
  show _=N.length
  rw [List.length_append,List.length_map,List.length_replicate]
  omega
theorem fn_of {CX : CXT} {P : Program} {w : World} {K : PySem.W.Frag} {mg : Str -> Option Value} {base : Heap} {k : Nat} {f : Addr} {name qual : Str} {params : Arguments} {body : List Stmt} {scope : Scope} {dV kV doc pm cdv ct oc : Value} {an od : Option Addr}
  {osl : Array (Option Value)} {N ps : List Str} {sp : Sp} (lk : K.lookup f = some ⟨oc, od, .func (PySem.W.fnOf name qual params body scope dV kV doc pm an cdv ct), osl⟩) (hcd : PySem.W.codeIn K cdv qual = true) (S : FnScope N ps scope)
  (len : ∀ vs H Q E, sp vs H Q E -> vs.length = ps.length)
  (hbody : ∀ (A : Around) (outer : List Env) (s : Shared) (H : Hp) (vs : List V) (Q : VK) (E : XK), Room k (A.deeper (envOfC qual scope s.heap.objs.size f cdv)) -> sp vs H Q E ->
   ∃ t, PSs (cxOf CX P w K mg base N qual scope f cdv A outer s H E) body t /\ t { nx := fun _ H' => Q .non H', rt := Q } (start N vs) H) :
  FnOk P w K mg base CX (k + 1) f (PySem.W.fnOf name qual params body scope dV kV doc pm an cdv ct) ps sp := by
 refine ⟨len, fun A outer s H args us vs Q E hr e0 hb r hsp => ?_⟩
 have hl := len _ _ _ _ hsp
 have KX : K.In s.heap := e0.mod.kin.keeps fun b o e => (e0.bs b o e).1
 have lim : s.heap.NoLimit := e0.mod.nolimit.keeps fun b o e => (e0.bs b o e).1
 have hkind : ∀ y ∈ ps.zip us, scope.names.lookup y.1 = some .local ∨ (scope.names.lookup y.1 = some .cell /\ ((cellsFrom (s.heap.objs.size + 1) scope.names []).lookup y.1).isSome = true) := fun ⟨n, v⟩ hy => by
  rcases S.par n (List.of_mem_zip hy).1 with q | q
  ·exact .inl q
  ·exact .inr ⟨q, PySem.W.cellsFrom_some _ _ _ (.inl q)⟩
 refine codeAny_call_function hr.depth (KX _ _ lk) rfl S.co S.gen rfl (PySem.W.codeRec_of KX hcd) (hb _ _ _ _ ?_)
 refine wpAny_newFunctionEnv_cells S.kind hkind fun env he s1 x => ?_
 subst he
 refine ⟨lim.keeps x.toInCall.keep, codeAny_func ?_⟩
 obtain ⟨t, ht, hq⟩ := hbody A outer s H vs Q E (hr.deeper _) hsp
 have I : Inv (cxOf CX P w K mg base N qual scope f cdv A outer s H E) [] (start N vs) H s1 := inv_start S hr.hd e0 hl r x
 refine wpAny_mono (ht [] s1 (start N vs) H _ I hq) (fun fl s' hs => ?_) fun e s' hs => hs
 have fin : ∀ {σ' : St} {H' : Hp} {v : V} {u : Value}, Inv (cxOf CX P w K mg base N qual scope f cdv A outer s H E) [] σ' H' s' -> RelV v u -> Q v H' -> CE outer P w H s Q u s' :=
  fun {σ' H' v u} J rv q => ⟨v, H', J.os, J.bare, J.base, J.hok, rv, q⟩
 cases fl with
 | ret u =>
  obtain ⟨v, σ', H', J, rv, q⟩ := hs
  exact fin J rv q
 | next =>
  obtain ⟨σ', H', J, q⟩ := hs
  exact fin (v := V.non) (u := Value.none) J rfl q
 | brk =>
  obtain ⟨_, _, _, q⟩ := hs
  exact False.elim q
 | cont =>
  obtain ⟨_, _, _, q⟩ := hs
  exact False.elim q
end L2
namespace L2
open PySem PySem.Spec PyProof.Rows
section
variable {X:Cx} {x:Str} {p pos:Pos} {e:Expr} {es:List Expr} {t:TA} {id T:String} {r:List V->Hp->VK->Prop}
def tCB (r:List V->Hp->VK->Prop) (t:TA):TE:=fun σ H Q=>t σ H fun vs H1=>r vs H1 Q
theorem pe_callB (hc:CallR X (.builtin id) r) (hg:Gl X x) (hm:X.mg x=none) (hv:bootBuiltins x=some (.builtin id)) (ha:PA X (e::es) t) (hn:x≠ "__name__":=by decide) (hdb:(x==("__debug__":Str))=false:=by decide)
  (he:starEach (e::es) X.env=(false,eval e X.env)::starEach es X.env:=by rfl) (hpl:(backTo pos (starEach es X.env)).any (·.1)=false:=by rfl):PE X (.Call (.Name x p) (e::es) [] pos) (tCB r t):=by
 intro pins s σ H Q I h
 refine wpAny_Call_Name_kw (ld_blt I hg hm hv ?_ hn hdb)
 exact PyProof.Rows.callWith_builtin1 (thn (ha pos pins s σ H _ I h) fun us s1 ⟨vs,H1,I1,r1,q1⟩=>hc pins s1 σ H1 vs us Q I1 r1 q1) he hpl
theorem pe_callTy (hc:CallR X (.type T) r) (hg:Gl X x) (hm:X.mg x=none) (hv:bootBuiltins x=some (.type T)) (ha:PA X (e::es) t) (hn:x≠ "__name__":=by decide) (hdb:(x==("__debug__":Str))=false:=by decide)
  (he:starEach (e::es) X.env=(false,eval e X.env)::starEach es X.env:=by rfl) (hpl:(backTo pos (starEach es X.env)).any (·.1)=false:=by rfl):PE X (.Call (.Name x p) (e::es) [] pos) (tCB r t):=by
 intro pins s σ H Q I h
 refine wpAny_Call_Name_kw (ld_blt I hg hm hv ?_ hn hdb)
 exact PyProof.Rows.callWith_type1 (thn (ha pos pins s σ H _ I h) fun us s1 ⟨vs,H1,I1,r1,q1⟩=>hc pins s1 σ H1 vs us Q I1 r1 q1) he hpl
end
end L2
namespace HT
open PySem PyProof.Rows
section
variable {prog:Program} {w:World} {A:Around} {E:Value->Shared->Prop} {s:Shared}
def sIx (n d:Nat):Option Int->Nat
 |none=>d
 |some v=>if v < 0 then (v+(n:Int)).toNat else min v.toNat n
theorem sIx_none (n d:Nat):sIx n d none=d:=rfl
theorem sIx_nat (n d k:Nat):sIx n d (some (k:Int))=min k n:=by
 show (if (k:Int) < 0 then ((k:Int)+(n:Int)).toNat else min (k:Int).toNat n)=min k n
 rw [if_neg (by omega),Int.toNat_natCast]
end
end HT
namespace L2
open PySem PySem.Spec PyProof.Rows
abbrev TO:=St->Hp->(Option Int->Hp->Prop)->Prop
def PO (X:Cx) (e:Option Expr) (t:TO):Prop:=
 ∀(pins:List (Addr×Obj)) (s:Shared) (σ:St) (H:Hp) (Q:Option Int->Hp->Prop),Inv X pins σ H s->t σ H Q->
  wpAny (model X.prog X.w) X.A (evalPart e X.env) (fun u s'=>∃o H',Inv X pins σ H' s'/\IsPart u o/\Q o H') X.xe s
def tNoPart:TO:=fun _ H Q=>Q none H
def tPart (t:TE):TO:=fun σ H Q=>t σ H fun x H1=>∃i,x= .int i/\Q (some i) H1
section
variable {X:Cx} {e:Expr} {te:TE} {lo hi:Option Expr} {tl th:TO} {pos p2:Pos}
theorem po_none:PO X none tNoPart:=by
 intro pins s σ H Q I h
 rw [evalPart_none]
 exact wpAny_pure ⟨none,H,I,.none,h⟩
theorem po_some (h:PE X e te):PO X (some e) (tPart te):=by
 intro pins s σ H Q I hw
 rw [evalPart_some]
 refine thn (h pins s σ H _ I hw) fun u s1 ⟨x,H1,I1,r1,q1⟩=>?_
 obtain ⟨i,rfl,q⟩:=q1
 obtain ⟨t,rfl⟩:=r1
 exact ⟨some i,H1,I1,.int i t,q⟩
def SlR (X:Cx) (r:V->Option Int->Option Int->Hp->VK->Prop):Prop:=
 ∀(pins:List (Addr×Obj)) (s:Shared) (σ:St) (H:Hp) (x:V) (v vl vu:Value) (lo hi:Option Int) (sl:Addr) (Q:VK),Inv X pins σ H s->RelV x v->s.heap.IsSliceOf sl vl vu .none->IsPart vl lo->IsPart vu hi->r x lo hi H Q->
  ∃T id,typeLookup (.type T) "__getitem__"=pure (some (.builtin id))/\s.TypeIs v T/\wpAny (model X.prog X.w) X.A (getItem v (.ref sl)) (EP X pins σ Q) X.xe s
def tSl (r:V->Option Int->Option Int->Hp->VK->Prop) (te:TE) (tl th:TO):TE:=fun σ H Q=>te σ H fun x H1=>tl σ H1 fun l H2=>th σ H2 fun u H3=>r x l u H3 Q
theorem pe_slice {r:V->Option Int->Option Int->Hp->VK->Prop} (hr:SlR X r) (he:PE X e te) (hl:PO X lo tl) (hu:PO X hi th):PE X (.Subscript e (.Slice lo hi none p2) pos) (tSl r te tl th):=by
 intro pins s σ H Q I h
 refine Subscript_ (thn (he pins s σ H _ I h) fun v s1 ⟨x,H1,I1,r1,q1⟩=>?_)
 refine wpAny_Slice (thn (hl pins s1 σ H1 _ I1 q1) fun vl s2 ⟨l,H2,I2,pl,q2⟩=>thn (hu pins s2 σ H2 _ I2 q2) fun vu s3 ⟨u,H3,I3,pu,q3⟩=>?_)
 rw [evalPart_none]
 refine wpAny_pure ?_
 have I4:Inv X pins σ H3 {s3 with heap:=s3.heap.push {cls:= .type "slice",data:= .fields #[vl,vu,.none]}}:=I3.kept (t':=s3.toks) fun b ob q=>Heap.get?_push_of_some _ q
 obtain ⟨T,id,hT,ht,hg⟩:=hr pins {s3 with heap:=s3.heap.push {cls:= .type "slice",data:= .fields #[vl,vu,.none]}} σ H3 x v vl vu l u s3.heap.objs.size Q I4 r1 (Heap.IsSliceOf.new ..) pl pu q3
 show wpAny (model X.prog X.w) X.A (subscriptTail e (.Slice lo hi none p2) v (.ref s3.heap.objs.size)) (EP X pins σ Q) X.xe {s3 with heap:=s3.heap.push {cls:= .type "slice",data:= .fields #[vl,vu,.none]}}
 exact tail_any (ops:= [.ref s3.heap.objs.size,v]) ht hT hg (by with_unfolding_all rfl)
def cutV (xs:List V) (lo hi:Option Int):List V:=(xs.drop (HT.sIx xs.length 0 lo)).take (HT.sIx xs.length xs.length hi - HT.sIx xs.length 0 lo)
theorem cutV_length (xs:List V) (lo hi:Option Int):(cutV xs lo hi).length<=xs.length:=by
 unfold cutV
 rw [List.length_take,List.length_drop]
 omega
end
end L2
namespace L2
open PySem PySem.Spec PyProof.Rows
def ixN (n:Nat) (i:Int):Option Nat:=if 0<=i then (if i < n then some i.toNat else none) else if -(n:Int)<=i then some (i+n).toNat else none
def atI {α:Type} (xs:List α) (i:Int):Option α:=(ixN xs.length i).bind fun j=>xs[j]?
theorem ixN_seq {n:Nat} {i:Int} {j:Nat} (h:ixN n i=some j):seqIndex? i n=some j/\j < n/\-(n:Int)<=i/\i < n:=by
 unfold ixN at h
 by_cases h0:0<=i
 ·rw [if_pos h0] at h
  by_cases h1:i < n
  ·rw [if_pos h1] at h
   have e:i.toNat=j:=Option.some.inj h
   exact ⟨by rw [seqIndex_of h0 h1,e],by omega,by omega,h1⟩
  ·rw [if_neg h1] at h;cases h
 ·rw [if_neg h0] at h
  by_cases h1: -(n:Int)<=i
  ·rw [if_pos h1] at h
   have e:(i+n).toNat=j:=Option.some.inj h
   exact ⟨by rw [seqIndex_neg (by omega) h1,e],by omega,h1,by omega⟩
  ·rw [if_neg h1] at h;cases h
theorem atI_get {α:Type} {xs:List α} {i:Int} {v:α} (h:atI xs i=some v):∃j,seqIndex? i xs.length=some j/\xs[j]? =some v/\j < xs.length/\-(xs.length:Int)<=i/\i < xs.length:=by
 unfold atI at h
 cases e:ixN xs.length i with
 |none=>rw [e] at h;cases h
 |some j=>
  rw [e] at h
  obtain ⟨h1,h2,h3,h4⟩:=ixN_seq e
  exact ⟨j,h1,h,h2,h3,h4⟩
theorem atI_nat {α:Type} {xs:List α} {j:Nat} {v:α} (h:xs[j]? =some v):atI xs (j:Int)=some v:=by
 have hj:j < xs.length:=(List.getElem?_eq_some_iff.mp h).1
 have e:ixN xs.length (j:Int)=some j:=by
  unfold ixN
  rw [if_pos (by omega),if_pos (by omega)];simp
 unfold atI;rw [e];exact h
theorem atI_last {α:Type} (xs:List α) (v:α):atI (xs++ [v]) (-1)=some v:=by
 have hl:(xs++ [v]).length=xs.length+1:=by simp
 have e:ixN (xs++ [v]).length (-1)=some xs.length:=by
  unfold ixN
  rw [hl,if_neg (by decide),if_pos (by omega)]
  congr 1
  omega
 unfold atI
 rw [e]
 show (xs++ [v])[xs.length]? =some v
 simp
def PlainIx (b:Expr):Prop:=∀o i,subscripted b false o i=operate [o,i] (getItem o i)
def IxR (X:Cx) (r:R2):Prop:=
 ∀(value slice:Expr) (pins:List (Addr×Obj)) (s:Shared) (σ:St) (H:Hp) (x y:V) (v u:Value) (Q:VK),Inv X pins σ H s->RelV x v->RelV y u->r x y H Q->
  subscripted slice false v u=operate [v,u] (getItem v u)->wpAny (model X.prog X.w) X.A (subscriptTail value slice v u) (EP X pins σ Q) X.xe s
def MtR (X:Cx) (id:String) (r:V->List V->Hp->VK->Prop):Prop:=
 ∀(pins:List (Addr×Obj)) (s:Shared) (σ:St) (H:Hp) (x:V) (xs:List V) (v:Value) (us:List Value) (Q:VK),Inv X pins σ H s->RelV x v->Vals xs us->r x xs H Q->
  wpAny (model X.prog X.w) X.A (call (.builtin id) (v::us)) (EP X pins σ Q) X.xe s
section
variable {X:Cx} {a b:Expr} {ta tb:TE} {pos:Pos}
theorem pe_ix {r:R2} (hr:IxR X r) (ha:PE X a ta) (hb:PE X b tb) (hs:PlainIx b):PE X (.Subscript a b pos) (tOp r ta tb):=by
 intro pins s σ H Q I h
 exact Subscript_ (binT ha hb I h fun v u s2 x y H2 I2 rx ry q=>hr a b pins s2 σ H2 x y v u Q I2 rx ry q (hs _ _))
def rIxL (K:PySem.W.Frag):R2:=fun x y H Q=>∃p xs i v,x= .ref p/\y= .int i/\SqL K H p xs/\atI xs i=some v/\Q v H
def rIxT (K:PySem.W.Frag):R2:=fun x y H Q=>∃p xs i v,x= .ref p/\y= .int i/\SqT K H p xs/\atI xs i=some v/\Q v H
theorem ix_list:IxR X (rIxL X.K):=by
 intro value slice pins s σ H x y v u Q I rx ry h hs
 obtain ⟨p,xs,i,z,rfl,rfl,hq,he,q⟩:=h
 cases rx
 obtain ⟨t,rfl⟩:=ry
 obtain ⟨its,r,pl,hz⟩:=I.list hq
 obtain ⟨j,h1,h2,h3,h4,h5⟩:=atI_get he
 obtain ⟨w,ew,rw'⟩:=r.get h2
 have hl:=r.length
 have hn:=line63
 have fin:EP X pins σ Q w s:=⟨z,H,I,rw',q⟩
 by_cases h0:0<=i
 ·have hj:i.toNat=j:=by
   rw [seqIndex_of h0 h5] at h1
   exact Option.some.inj h1
  exact item_listR pl.isList h0 (by omega) (by rw [hj];simpa using ew) fin hs
 ·have hj:(i+(its.toArray.size:Int)).toNat=j:=by
   rw [seqIndex_neg (by omega) h4] at h1
   rw [List.size_toArray,←hl]
   exact Option.some.inj h1
  exact subscriptTail_builtinR (x:=w) pl.isList.typeIs slot_list_getitem.lookup
   (wpAny_getItem_list_neg (Q:=fun r s'=>r=w/\EP X pins σ Q r s') pl.isList (by omega) (by rw [List.size_toArray]<;>omega) (by omega) (by rw [hj];simpa using ew) ⟨rfl,fin⟩) hs
theorem ix_tup:IxR X (rIxT X.K):=by
 intro value slice pins s σ H x y v u Q I rx ry h hs
 obtain ⟨p,xs,i,z,rfl,rfl,hq,he,q⟩:=h
 cases rx
 obtain ⟨t,rfl⟩:=ry
 obtain ⟨its,r,pl,hz⟩:=I.tuple hq
 obtain ⟨j,h1,h2,h3,h4,h5⟩:=atI_get he
 obtain ⟨w,ew,rw'⟩:=r.get h2
 have hl:=r.length
 have hn:=line63
 have fin:EP X pins σ Q w s:=⟨z,H,I,rw',q⟩
 exact subscriptTail_builtinR (x:=w) pl.typeIs slot_tuple_getitem.lookup
  (getItem_tuple (j:=j) (Q:=fun r s'=>r=w/\EP X pins σ Q r s') pl (by omega) (by omega) (by rw [List.size_toArray,←hl];exact h1) (by simpa using ew) ⟨rfl,fin⟩) hs
theorem mapSeq_set (its:List Value) (n j:Nat) (u:Value):Obj.mapSeq (·.setIfInBounds j u) {cls:= .type "list",data:= .seq its.toArray n}={cls:= .type "list",data:= .seq (its.set j u).toArray n}:=by
 simp [Obj.mapSeq]
theorem Inv.lst {pins:List (Addr×Obj)} {σ:St} {H:Hp} {s:Shared} {p:Addr} {xs:List V} (I:Inv X pins σ H s) (h:H p=some (.lst xs)):
  ∃(its:List Value) (n:Nat),Vals xs its/\s.heap.get? p=some {cls:= .type "list",data:= .seq its.toArray n}/\xs.length<=sizeLine:=by
 obtain ⟨z,its,n,r,e⟩:=I.hok p _ h
 exact ⟨its,n,r,e,z⟩
theorem Inv.lstUpd {pins:List (Addr×Obj)} {σ:St} {H:Hp} {s:Shared} {p:Addr} {xs ys:List V} {its its':List Value} {n n':Nat} {f:Obj->Obj} (I:Inv X pins σ H s) (h:H p=some (.lst xs))
  (ho:s.heap.get? p=some {cls:= .type "list",data:= .seq its.toArray n}) (hf:f {cls:= .type "list",data:= .seq its.toArray n}={cls:= .type "list",data:= .seq its'.toArray n'}) (r:Vals ys its') (hz:ys.length<=sizeLine) (t:Nat):
  Inv X pins σ (upd H p (.lst ys)) {s with heap:=s.heap.update p f,toks:=t}:=by
 have e:(s.heap.update p f).get? p=some {cls:= .type "list",data:= .seq its'.toArray n'}:=by
  rw [Heap.get?_update_self f ho (by rw [hf]<;>rfl),hf]
 refine I.write (x:=p) (e:=p) (by rw [h];trivial) (.inl rfl) (fun b u hb q=>(Heap.get?_update_other _ _ (Ne.symm hb)).trans q) ⟨_,e⟩ ?_
 exact ⟨hz,its',n',r,e⟩
def rSetL:V->V->V->Hp->(Hp->Prop)->Prop:=fun o i v H Q=>∃p xs k j,o= .ref p/\i= .int k/\H p=some (.lst xs)/\ixN xs.length k=some j/\Q (upd H p (.lst (xs.set j v)))
theorem set_list:PSet X rSetL:=by
 intro pins s σ H o i v ov iv u Q I ro ri rv h
 obtain ⟨p,xs,k,j,rfl,rfl,hp,hj,q⟩:=h
 cases ro
 obtain ⟨t,rfl⟩:=ri
 obtain ⟨its,n,r,ho,hz⟩:=I.lst hp
 obtain ⟨h1,h2,h3,h4⟩:=ixN_seq hj
 have hl:=r.length
 have hn:=line63
 have I':Inv X pins σ (upd H p (.lst (xs.set j v))) {s with heap:=s.heap.update p (Obj.mapSeq (·.setIfInBounds j u))}:=
  I.lstUpd hp ho (mapSeq_set its n j u) (r.set rv j) (by rw [List.length_set];exact hz) s.toks
 by_cases h0:0<=k
 ·have hk:k.toNat=j:=by
   rw [seqIndex_of h0 h4] at h1
   exact Option.some.inj h1
  exact PySem.W.ki_setAt ho h0 (by omega) (by rw [List.size_toArray,←hl];exact h4) (by rw [hk];exact ⟨_,I',q⟩)
 ·have hk:(k+(its.toArray.size:Int)).toNat=j:=by
   rw [seqIndex_neg (by omega) h3] at h1
   rw [List.size_toArray,←hl]
   exact Option.some.inj h1
  exact PySem.W.ki_setBack ho (by omega) (by rw [List.size_toArray,←hl];exact h3) (by omega) (by rw [hk];exact ⟨_,I',q⟩)
theorem slice_bounds (lo hi:Option Int) (n:Nat):(sliceBounds lo hi none n).1=((HT.sIx n 0 lo:Nat):Int)/\(sliceBounds lo hi none n).2.1=((HT.sIx n n hi:Nat):Int)/\(sliceBounds lo hi none n).2.2=1:=by
 refine ⟨?_,?_,rfl⟩
 ·cases lo with
  |none=>simp [sliceBounds,HT.sIx]
  |some i=>
   simp only [sliceBounds,HT.sIx,Option.getD_none,show (1:Int) > 0 by decide,if_true]
   by_cases h:i < 0
   ·simp only [h,if_true]<;>omega
   ·simp only [h,if_false]<;>omega
 ·cases hi with
  |none=>simp [sliceBounds,HT.sIx]
  |some i=>
   simp only [sliceBounds,HT.sIx,Option.getD_none,show (1:Int) > 0 by decide,if_true]
   by_cases h:i < 0
   ·simp only [h,if_true]<;>omega
   ·simp only [h,if_false]<;>omega
theorem slicePick_cut (its:List Value) (lo hi:Option Int):slicePick its.toArray lo hi none=((its.drop (HT.sIx its.length 0 lo)).take (HT.sIx its.length its.length hi - HT.sIx its.length 0 lo)).toArray:=by
 obtain ⟨h1,h2,h3⟩:=slice_bounds lo hi its.toArray.size
 unfold slicePick
 rw [h1,h2,h3]
 simp only [sliceRange_one,pick_run,List.size_toArray]<;>rfl
def rSlL (K:PySem.W.Frag):V->Option Int->Option Int->Hp->VK->Prop:=fun x lo hi H Q=>∃a xs,x= .ref a/\SqL K H a xs/\∀p,H p=none->Q (.ref p) (upd H p (.lst (cutV xs lo hi)))
theorem sl_list:SlR X (rSlL X.K):=by
 intro pins s σ H x v vl vu lo hi sl Q I rx hs pl pu h
 obtain ⟨a,xs,rfl,hx,q⟩:=h
 cases rx
 obtain ⟨its,r,ht,hz⟩:=I.list hx
 have hlen:=r.length
 refine ⟨"list",_,slot_list_getitem.lookup,ht.isList.typeIs,?_⟩
 refine wpAny_getItem_list_slice ht.isList hs pl pu .none (by simp) ?_ (by rw [List.size_toArray]<;>omega)
 rw [slicePick_cut,←hlen]
 refine ⟨.ref s.heap.objs.size,_,I.laid (t':=s.toks) (o:= .lst (cutV xs lo hi)) (fun b ob q=>Heap.get?_push_of_some _ q) (Nat.le_refl _) ?_,rfl,q _ (I.hok.fresh (Nat.le_refl _))⟩
 exact ⟨Nat.le_trans (cutV_length xs lo hi) hz,_,0,(r.drop (HT.sIx xs.length 0 lo)).take (HT.sIx xs.length xs.length hi - HT.sIx xs.length 0 lo),Heap.get?_push_size _ rfl⟩
def flatV:V->Bool
 | .non=>true
 | .bl _=>true
 | .int _=>true
 | .str _=>true
 |_=>false
def eqV:V->V->Bool
 | .non,.non=>true
 | .bl a,.bl b=>a==b
 | .bl a,.int b=>(if a then 1 else 0)==b
 | .int a,.bl b=>a==(if b then 1 else 0)
 | .int a,.int b=>a==b
 | .str a,.str b=>a==b
 |_,_=>false
theorem eqAt_V {A:Around} {s:Shared} {y x:V} {u v:Value} (ry:RelV y u) (rx:RelV x v) (fy:flatV y=true) (fx:flatV x=true):SeqAt.EqAt A s u v (eqV y x):=by
 cases y with
 |non=>
  cases ry
  cases x with
  |non=>cases rx;exact SeqAt.EqAt.same _
  |bl b=>cases rx;exact SeqAt.EqAt.none_bool b
  |int b=>obtain ⟨t,rfl⟩:=rx;exact SeqAt.EqAt.none_int b t
  |str b=>obtain ⟨t,rfl⟩:=rx;exact SeqAt.EqAt.none_str b t
  |_=>exact absurd (show false=true from fx) Bool.false_ne_true
 |bl a=>
  cases ry
  cases x with
  |non=>cases rx;exact SeqAt.EqAt.bool_none a
  |bl b=>cases rx;exact SeqAt.EqAt.bool_bool a b
  |int b=>obtain ⟨t,rfl⟩:=rx;exact SeqAt.EqAt.bool_int a b t
  |str b=>obtain ⟨t,rfl⟩:=rx;exact SeqAt.EqAt.bool_str a b t
  |_=>exact absurd (show false=true from fx) Bool.false_ne_true
 |int a=>
  obtain ⟨t',rfl⟩:=ry
  cases x with
  |non=>cases rx;exact SeqAt.EqAt.int_none a t'
  |bl b=>cases rx;exact SeqAt.EqAt.int_bool a t' b
  |int b=>obtain ⟨t,rfl⟩:=rx;exact SeqAt.EqAt.int_int a t' b t
  |str b=>obtain ⟨t,rfl⟩:=rx;exact SeqAt.EqAt.int_str a t' b t
  |_=>exact absurd (show false=true from fx) Bool.false_ne_true
 |str a=>
  obtain ⟨t',rfl⟩:=ry
  cases x with
  |non=>cases rx;exact SeqAt.EqAt.str_none a t'
  |bl b=>cases rx;exact SeqAt.EqAt.str_bool a t' b
  |int b=>obtain ⟨t,rfl⟩:=rx;exact SeqAt.EqAt.str_int a t' b t
  |str b=>obtain ⟨t,rfl⟩:=rx;exact SeqAt.EqAt.str_str a t' b t
  |_=>exact absurd (show false=true from fx) Bool.false_ne_true
 |_=>exact absurd (show false=true from fy) Bool.false_ne_true
def eqU (x:V) (u:Value):Bool:=match u with
 | .none=>eqV .non x
 | .bool b=>eqV (.bl b) x
 | .int i _=>eqV (.int i) x
 | .str z _=>eqV (.str z) x
 |_=>false
theorem eqU_of {x y:V} {u:Value} (r:RelV y u) (f:flatV y=true):eqU x u=eqV y x:=by
 cases y with
 |non=>cases r;rfl
 |bl b=>cases r;rfl
 |int i=>obtain ⟨t,rfl⟩:=r;rfl
 |str z=>obtain ⟨t,rfl⟩:=r;rfl
 |_=>exact absurd (show false=true from f) Bool.false_ne_true
theorem any_eqU {x:V}:∀{xs:List V} {us:List Value},Vals xs us->xs.all flatV=true->us.any (eqU x)=xs.any fun y=>eqV y x
 |_,_,.nil,_=>rfl
 |y::xs,u::us,.cons r t,f=>by
  rw [List.all_cons,Bool.and_eq_true] at f
  rw [List.any_cons,List.any_cons,eqU_of r f.1,any_eqU t f.2]
theorem mem_eqAt {A:Around} {s:Shared} {x:V} {v:Value} (rx:RelV x v) (fx:flatV x=true):∀{xs:List V} {us:List Value},Vals xs us->xs.all flatV=true->∀u∈us,SeqAt.EqAt A s u v (eqU x u)
 |_,_,.nil,_=>fun u hu=>by cases hu
 |y::xs,u::us,.cons r t,f=>fun u' hu=>by
  rw [List.all_cons,Bool.and_eq_true] at f
  rcases List.mem_cons.mp hu with rfl|hu
  ·rw [eqU_of r f.1];exact eqAt_V r rx f.1 fx
  ·exact mem_eqAt rx fx t f.2 u' hu
def inV (x:V) (xs:List V):Bool:=xs.any fun y=>eqV y x
def rIn (K:PySem.W.Frag) (neg:Bool):R2:=fun x y H Q=>∃p xs,y= .ref p/\(SqL K H p xs∨SqT K H p xs)/\flatV x=true/\xs.all flatV=true/\Q (.bl (if neg then !inV x xs else inV x xs)) H
theorem op_in_seq:OpR X (compareOp .In) (rIn X.K false):=by
 intro pins s σ H x y v u Q I rx ry h
 obtain ⟨p,xs,rfl,hq,fx,fs,q⟩:=h
 cases ry
 rcases hq with hq|hq
 ·obtain ⟨its,r,pl,hz⟩:=I.list hq
  refine SeqAt.in_listAt (eqU x) pl.isList (fun w hw=>mem_eqAt rx fx r fs w (by simpa using hw)) ⟨.bl _,H,I,rfl,?_⟩
  rw [show its.toArray.any (eqU x)=its.any (eqU x) by simp,any_eqU r fs]
  exact q
 ·obtain ⟨its,r,pl,hz⟩:=I.tuple hq
  refine SeqAt.in_tupleAt (eqU x) pl (fun w hw=>mem_eqAt rx fx r fs w (by simpa using hw)) ⟨.bl _,H,I,rfl,?_⟩
  rw [show its.toArray.any (eqU x)=its.any (eqU x) by simp,any_eqU r fs]
  exact q
theorem op_notIn_seq:OpR X (compareOp .NotIn) (rIn X.K true):=by
 intro pins s σ H x y v u Q I rx ry h
 obtain ⟨p,xs,rfl,hq,fx,fs,q⟩:=h
 cases ry
 rcases hq with hq|hq
 ·obtain ⟨its,r,pl,hz⟩:=I.list hq
  refine SeqAt.notIn_listAt (eqU x) pl.isList (fun w hw=>mem_eqAt rx fx r fs w (by simpa using hw)) ⟨.bl _,H,I,rfl,?_⟩
  rw [show its.toArray.any (eqU x)=its.any (eqU x) by simp,any_eqU r fs]
  exact q
 ·obtain ⟨its,r,pl,hz⟩:=I.tuple hq
  refine SeqAt.notIn_tupleAt (eqU x) pl (fun w hw=>mem_eqAt rx fx r fs w (by simpa using hw)) ⟨.bl _,H,I,rfl,?_⟩
  rw [show its.toArray.any (eqU x)=its.any (eqU x) by simp,any_eqU r fs]
  exact q
theorem call_len_seq:CallR X (.builtin "len") (fun xs H Q=>∃p ys,xs= [.ref p]/\(SqL X.K H p ys∨SqT X.K H p ys)/\Q (.int ys.length) H):=by
 intro pins s σ H xs us Q I r h
 obtain ⟨p,ys,rfl,hq,q⟩:=h
 obtain ⟨u,rfl,rx⟩:=vals1 r
 cases rx
 have hn:=line63
 rcases hq with hq|hq
 ·obtain ⟨its,r',pl,hz⟩:=I.list hq
  have hlen:=r'.length
  exact Calls.call_len_list pl.isList (by simp only [List.size_toArray]<;>omega) ⟨.int ys.length,H,I.tok _,⟨s.toks+1,by rw [List.size_toArray,hlen]⟩,q⟩
 ·obtain ⟨its,r',pl,hz⟩:=I.tuple hq
  have hlen:=r'.length
  exact len_tuple pl (by simp only [List.size_toArray]<;>omega) ⟨.int ys.length,H,I.tok _,⟨s.toks+1,by rw [List.size_toArray,hlen]⟩,q⟩
theorem call_list_of:CallR X (.type "list") (fun xs H Q=>∃p ys,xs= [.ref p]/\(SqL X.K H p ys∨SqT X.K H p ys)/\∀l,H l=none->Q (.ref l) (upd H l (.lst ys))):=by
 intro pins s σ H xs us Q I r h
 obtain ⟨p,ys,rfl,hq,q⟩:=h
 obtain ⟨u,rfl,rx⟩:=vals1 r
 cases rx
 have fin:∀(its:List Value),Vals ys its->ys.length<=sizeLine->∀(h':Heap) (c':Nat),(∀b o',s.heap.get? b=some o'->h'.get? b=some o')->
   h'.get? s.heap.objs.size=some {cls:= .type "list",dict:=none,data:= .seq its.toArray c',slots:= #[]}->EP X pins σ Q (.ref s.heap.objs.size) {s with heap:=h'}:=fun its r' hz h' c' kp e=>
  ⟨.ref s.heap.objs.size,_,I.laid (t':=s.toks) kp (Nat.le_refl _) (show ObjOk X.prog X.w _ h' _ (.lst ys) from ⟨hz,its,c',r',e⟩),rfl,q _ (I.hok.fresh (Nat.le_refl _))⟩
 rcases hq with hq|hq
 ·obtain ⟨its,r',pl,hz⟩:=I.list hq
  have hlen:=r'.length
  obtain ⟨o,ho,hc,n,hd⟩:=pl.isList
  exact call_list_seq p (.inl rfl) ho hc hd (fun h' c' kp e=>fin its r' hz h' c' kp e) (by simp only [List.size_toArray]<;>omega)
 ·obtain ⟨its,r',pl,hz⟩:=I.tuple hq
  have hlen:=r'.length
  obtain ⟨o,ho,hc,n,hd⟩:=pl
  exact call_list_seq p (.inr rfl) ho hc hd (fun h' c' kp e=>fin its r' hz h' c' kp e) (by simp only [List.size_toArray]<;>omega)
def tyV (K:PySem.W.Frag) (T:String) (x:V) (H:Hp):Prop:=match x with
 | .str _=>T="str"
 | .int _=>T="int"
 | .ref p=>(T="list"/\∃xs,SqL K H p xs)∨(T="tuple"/\∃o,K.lookup p=some o/\o.cls= .type "tuple"/\o.dict=none)∨
   (T="dict"/\((∃kvs,H p=some (.dK kvs))∨∃kvs,H p=some (.dT kvs)))∨(T="set"/\∃S n,H p=some (.set S n))
 |_=>False
theorem tyV_is {pins:List (Addr×Obj)} {σ:St} {H:Hp} {s:Shared} {T:String} {x:V} {v:Value} (I:Inv X pins σ H s) (r:RelV x v) (ty:tyV X.K T x H):
  s.TypeIs v T/\∀a,v= .ref a->∃ob,s.heap.get? a=some ob/\ob.dict=none:=by
 cases x with
 |str z=>
  obtain ⟨t,rfl⟩:=r
  cases (show T="str" from ty)
  exact ⟨typeIs_str s z t,fun _ e=>nomatch e⟩
 |int i=>
  obtain ⟨t,rfl⟩:=r
  cases (show T="int" from ty)
  exact ⟨typeIs_int s i t,fun _ e=>nomatch e⟩
 |ref p=>
  cases r
  rcases ty with ⟨rfl,xs,hq⟩|⟨rfl,o,hk,hc,hd⟩|⟨rfl,hk⟩|⟨rfl,S,n,hk⟩
  ·obtain ⟨its,_,pl,_⟩:=I.list hq
   refine ⟨pl.isList.typeIs,fun a e=>?_⟩
   cases e
   obtain ⟨o,n,e,c,hd,_⟩:=pl
   exact ⟨o,e,hd⟩
  ·refine ⟨⟨o,I.kIn p o hk,hc⟩,fun a e=>?_⟩
   cases e
   exact ⟨o,I.kIn _ o hk,hd⟩
  ·have z:∃o,s.heap.get? p=some o/\o.ExactDict:=by
    rcases hk with ⟨kvs,hk⟩|⟨kvs,hk⟩
    ·obtain ⟨_,_,_,_,o,_,_,e,ex,_⟩:=I.hok p _ hk
     exact ⟨o,e,ex⟩
    ·obtain ⟨_,_,_,_,o,_,_,e,ex,_⟩:=I.hok p _ hk
     exact ⟨o,e,ex⟩
   obtain ⟨o,e,ex⟩:=z
   refine ⟨⟨o,e,ex.1⟩,fun a e2=>?_⟩
   cases e2
   exact ⟨o,e,ex.2.1⟩
  ·obtain ⟨o,_,_,_,e,ex,_⟩:=I.hok p _ hk
   refine ⟨⟨o,e,ex.1⟩,fun a e2=>?_⟩
   cases e2
   exact ⟨o,e,ex.2.1⟩
 |_=>exact False.elim ty
def tBM0 (K:PySem.W.Frag) (T:String) (r:V->List V->Hp->VK->Prop) (to:TE):TE:=fun σ H Q=>to σ H fun x H1=>tyV K T x H1/\r x [] H1 Q
def tBM (K:PySem.W.Frag) (T:String) (r:V->List V->Hp->VK->Prop) (to:TE) (t:TA):TE:=fun σ H Q=>to σ H fun x H1=>tyV K T x H1/\t σ H1 fun xs H2=>r x xs H2 Q
variable {o e:Expr} {es:List Expr} {to:TE} {t:TA} {name:Str} {apos cpos:Pos} {T id:String} {r:V->List V->Hp->VK->Prop}
theorem pe_bm0 (pa:PlainAttrs T) (slot:Slot T name id) (hty:typeOf (.builtin id)=pure (.type "method_descriptor")) (hm:MtR X id r) (ho:PE X o to)
  (hbase:attributeBase o name X.env (eval o X.env)=eval o X.env:=by rfl) (hline:(apos.endLine==cpos.line)=true:=by rfl):PE X (.Call (.Attribute o name apos) [] [] cpos) (tBM0 X.K T r to):=by
 intro pins s σ H Q I h
 refine wpAny_Call_method0_late hbase hline (thn (ho pins s σ H _ I h) fun v s1 ⟨x,H1,I1,r1,ty,q1⟩=>?_)
 obtain ⟨h1,h2⟩:=tyV_is I1 r1 ty
 exact ⟨T,id,pa,slot,hty,h1,h2,Calls.callWith_builtin rfl (PySem.evalArgs_none (hm pins s1 σ H1 x [] v [] Q I1 r1 .nil q1))⟩
theorem pe_bm (pa : PlainAttrs T) (slot : Slot T name id) (hty : typeOf (.builtin id) = pure (.type "method_descriptor")) (hm : MtR X id r) (ho : PE X o to) (ha : PA X (e :: es) t)
  (hbase : attributeBase o name X.env (eval o X.env) = eval o X.env := by rfl)
  (hfew : ((backTo cpos (starEach (e :: es) X.env)).all (fun x => !x.1) && (backToKw cpos (keywordEach [] X.env)).all (fun x => x.1.isSome)
   && decide ((e :: es).length + ([] : List Keyword).length + (if ([] : List Keyword).isEmpty then 0 else 1) < 30)) = true := by rfl)
  (hline : (apos.endLine == cpos.line) = true := by rfl) (hs : starEach (e :: es) X.env = (false, eval e X.env) :: starEach es X.env := by rfl) (hplain : (backTo cpos (starEach es X.env)).any (·.1) = false := by rfl) :
  PE X (.Call (.Attribute o name apos) (e :: es) [] cpos) (tBM X.K T r to t) := by
 intro pins s σ H Q I h
 refine wpAny_Call_method_late hbase hfew hline rfl (thn (ho pins s σ H _ I h) fun v s1 ⟨x, H1, I1, r1, ty, q1⟩ => ?_)
 obtain ⟨h1, h2⟩ := tyV_is I1 r1 ty
 refine ⟨T, id, pa, slot, hty, h1, h2, ?_⟩
 have hA := ha cpos pins s1 σ H1 _ I1 q1
 rw [hs] at hA ⊢
 refine Calls.callWith_builtin (by show (false || (backTo cpos (starEach es X.env)).any (·.1)) = false; rw [hplain] <;> rfl) (Calls.evalArgs_plain ?_)
 exact thn hA fun us s2 ⟨vs, H2, I2, r2, q2⟩ => hm pins s2 σ H2 x vs v us Q I2 r1 r2 q2
/- xs.append(e), list.index on a module's tuple .. are MtR facts of 06m -/
end
end L2
namespace L2
open PySem PySem.Spec PyProof.Rows
def MtM (X:Cx) (id:String) (r:V->List V->Hp->VK->Prop):Prop:=
 ∀(pins:List (Addr×Obj)) (s:Shared) (σ:St) (H:Hp) (x:V) (xs:List V) (v:Value) (us:List Value) (Q:VK),Inv X pins σ H s->RelV x v->Vals xs us->r x xs H Q->
  wpAny (model X.prog X.w) X.A (call (.builtin id) (v::us)) (EP X pins σ Q) X.xe s
theorem Vals.one:∀{x:V} {us:List Value},Vals [x] us->∃u,us= [u]/\RelV x u
 |_,_,.cons r .nil=>⟨_,rfl,r⟩
theorem Vals.zero:∀{us:List Value},Vals [] us->us= []
 |_,.nil=>rfl
theorem Vals.dropLast {xs:List V} {us:List Value} (h:Vals xs us):Vals xs.dropLast us.dropLast:=by
 induction h with
 |nil=>exact .nil
 |cons r t ih=>
  cases t with
  |nil=>exact .nil
  |cons q t'=>exact .cons r ih
theorem Vals.rep {xs:List V} {us:List Value} (h:Vals xs us):∀k:Nat,Vals (List.replicate k xs).flatten (List.replicate k us).flatten
 |0=> .nil
 |k+1=>by
  rw [List.replicate_succ,List.replicate_succ,List.flatten_cons,List.flatten_cons]
  exact Vals.append h (Vals.rep h k)
theorem erase_last {α:Type} (l:List α):l.eraseIdx (l.length - 1)=l.dropLast:=by
 induction l with
 |nil=>rfl
 |cons a r ih=>
  cases r with
  |nil=>rfl
  |cons b r=>
   have e:(a::b::r).length - 1=((b::r).length - 1)+1:=by
    have h1:(a::b::r).length=r.length+2:=rfl
    have h2:(b::r).length=r.length+1:=rfl
    omega
   rw [e,List.eraseIdx_cons_succ,ih]
   all_goals rfl
theorem foldl_rep (its:List Value):∀(k:Nat) (acc:List Value),
  List.foldl (fun x1 x2=>x1++x2) acc.toArray (List.replicate k its.toArray)=(acc++(List.replicate k its).flatten).toArray
 |0,acc=>by simp
 |k+1,acc=>by
  have e:acc.toArray++its.toArray=(acc++its).toArray:=by simp
  have e2:(acc++its)++(List.replicate k its).flatten=acc++(List.replicate (k+1) its).flatten:=by
   rw [List.replicate_succ,List.flatten_cons,List.append_assoc]
  rw [←e2,←foldl_rep its k (acc++its),←e,List.replicate_succ,List.foldl_cons]
section
variable {X:Cx} {pins:List (Addr×Obj)} {σ:St} {H:Hp} {s:Shared} {l b:Addr} {xs ys zs:List V}
theorem Inv.lset {its its':List Value} {n:Nat} {f:Array Value->Array Value} {t':Nat} (I:Inv X pins σ H s) (hH:H l=some (.lst xs))
  (e:s.heap.get? l=some {cls:= .type "list",data:= .seq its.toArray n}) (hf:f its.toArray=its'.toArray) (hv:Vals ys its') (hz:ys.length<=sizeLine):
  Inv X pins σ (upd H l (.lst ys)) {s with heap:=s.heap.update l (Obj.mapSeq f),toks:=t'}:=by
 have q:=PySem.IsL.update e f
 rw [hf] at q
 refine I.write (x:=l) (e:=l) (by rw [hH];exact trivial) (.inl rfl) (fun b' u hb hu=>(Heap.get?_update_other s.heap (Obj.mapSeq f) (Ne.symm hb)).trans hu) ⟨_,q⟩ ?_
 exact ⟨hz,its',_,hv,q⟩
theorem Inv.lnew {its:List Value} {t':Nat} (I:Inv X pins σ H s) (hv:Vals ys its) (hz:ys.length<=sizeLine):
  Inv X pins σ (upd H s.heap.objs.size (.lst ys)) {s with heap:=s.heap.push {cls:= .type "list",data:= .seq its.toArray},toks:=t'}:=
 I.laid (fun _ _ q=>Heap.get?_push_of_some _ q) (Nat.le_refl _) ⟨hz,its,0,hv,Heap.get?_push_size _ rfl⟩
theorem Inv.fresh (I:Inv X pins σ H s):H s.heap.objs.size=none:=I.hok.fresh (Nat.le_refl _)
theorem Inv.lstM (I:Inv X pins σ H s) (hH:H l=some (.lst xs)):xs.length<=sizeLine/\∃(its:List Value) (n:Nat),Vals xs its/\xs.length=its.length/\s.heap.get? l=some {cls:= .type "list",data:= .seq its.toArray n}:=by
 obtain ⟨z,its,n,r,e⟩:=I.hok l _ hH
 exact ⟨z,its,n,r,r.length,e⟩
theorem notLongL {n:Nat} (h:n<=sizeLine):Builtin.List.listTooLong n=false:=by
 unfold Builtin.List.listTooLong
 exact decide_eq_false (by omega)
end
section
variable {X:Cx}
def rAppend:V->List V->Hp->VK->Prop:=fun x vs H Q=>∃l xs y,x= .ref l/\vs= [y]/\H l=some (.lst xs)/\xs.length < sizeLine/\Q .non (upd H l (.lst (xs++ [y])))
theorem mt_append:MtM X "list.append" rAppend:=by
 intro pins s σ H x vs v us Q I rx rv h
 obtain ⟨l,xs,y,rfl,rfl,hH,hz,q⟩:=h
 cases rx
 obtain ⟨u,rfl,ru⟩:=rv.one
 obtain ⟨z,its,n,r,hl,e⟩:=I.lstM hH
 refine call_meets F.slot_list_append ⟨_,e,rfl⟩ F.entry_list_append (F.args_list_append_2 _ _) (PySem.list_append l its.toArray n u (by rw [List.size_toArray];omega)) ⟨e,?_⟩
 refine ⟨.non,_,I.lset (its':=its++ [u]) hH e (by simp) (r.append (.cons ru .nil)) ?_,rfl,q⟩
 rw [List.length_append,List.length_singleton]
 omega
def rExtend:V->List V->Hp->VK->Prop:=fun x vs H Q=>∃l b xs zs,x= .ref l/\vs= [.ref b]/\H l=some (.lst xs)/\H b=some (.lst zs)/\xs.length+zs.length<=sizeLine/\Q .non (upd H l (.lst (xs++zs)))
theorem mt_extend:MtM X "list.extend" rExtend:=by
 intro pins s σ H x vs v us Q I rx rv h
 obtain ⟨l,b,xs,zs,rfl,rfl,hH,hB,hz,q⟩:=h
 cases rx
 obtain ⟨u,rfl,ru⟩:=rv.one
 cases ru
 obtain ⟨z,its,n,r,hl,e⟩:=I.lstM hH
 obtain ⟨z2,its2,n2,r2,hl2,e2⟩:=I.lstM hB
 have hsz:its.toArray.size+its2.toArray.size<=sizeLine:=by rw [List.size_toArray,List.size_toArray];omega
 have hlong:¬(!its.toArray.isEmpty&&Builtin.List.listTooLong (its.toArray.size+its2.toArray.size))=true:=by
  rw [notLongL hsz,Bool.and_false]
  exact Bool.false_ne_true
 refine call_meets F.slot_list_extend ⟨_,e,rfl⟩ F.entry_list_extend (F.args_list_extend_2 _ _)
  (AutoSeq1.list_extend_list_list_0 l its.toArray n b its2.toArray n2 hlong (by rw [List.size_toArray];omega) (by omega)) ⟨e,e2,?_⟩
 refine ⟨.non,_,I.lset (its':=its++its2) hH e (by simp) (r.append r2) ?_,rfl,q⟩
 rw [List.length_append]
 omega
def rPop:V->List V->Hp->VK->Prop:=fun x vs H Q=>∃l xs y,x= .ref l/\vs= []/\H l=some (.lst xs)/\xs[xs.length - 1]? =some y/\Q y (upd H l (.lst xs.dropLast))
theorem mt_pop:MtM X "list.pop" rPop:=by
 intro pins s σ H x vs v us Q I rx rv h
 obtain ⟨l,xs,y,rfl,rfl,hH,hy,q⟩:=h
 cases rx
 have hus:=rv.zero
 subst hus
 obtain ⟨z,its,n,r,hl,e⟩:=I.lstM hH
 obtain ⟨u,hu,ru⟩:=r.get hy
 have hy':its.toArray[its.toArray.size - 1]? =some u:=by
  show its.toArray[its.length - 1]? =some u
  rw [←Array.getElem?_toList,←hl]
  exact hu
 refine call_meets F.slot_list_pop ⟨_,e,rfl⟩ F.entry_list_pop (F.args_list_pop_1 _) (MeetsSeq.list_pop_last l its.toArray n u hy' (by rw [List.size_toArray];omega)) ⟨e,?_⟩
 refine ⟨y,_,I.lset (its':=its.dropLast) hH e ?_ r.dropLast ?_,ru,q⟩
 ·show its.toArray.eraseIdxIfInBounds (its.toArray.size - 1)=its.dropLast.toArray
  rw [List.size_toArray,List.eraseIdxIfInBounds_toArray,erase_last]
 ·rw [List.length_dropLast]
  omega
def rCat:R2:=fun x y H Q=>∃l b xs zs,x= .ref l/\y= .ref b/\H l=some (.lst xs)/\H b=some (.lst zs)/\xs.length+zs.length<=sizeLine/\∀p,H p=none->Q (.ref p) (upd H p (.lst (xs++zs)))
theorem op_cat:OpR X (binaryOp .Add) rCat:=by
 intro pins s σ H x y v u Q I rx ry h
 obtain ⟨l,b,xs,zs,rfl,rfl,hH,hB,hz,q⟩:=h
 cases rx
 cases ry
 obtain ⟨z,its,n,r,hl,e⟩:=I.lstM hH
 obtain ⟨z2,its2,n2,r2,hl2,e2⟩:=I.lstM hB
 refine PySem.P.add_list e e2 ?_ (by rw [List.size_toArray,List.size_toArray];omega)
 have ea:its.toArray++its2.toArray=(its++its2).toArray:=by simp
 rw [ea]
 exact ⟨.ref _,_,I.lnew (t':=s.toks) (r.append r2) (by rw [List.length_append];omega),rfl,q _ I.fresh⟩
def rRep:R2:=fun x y H Q=>∃l k xs,x= .ref l/\y= .int k/\H l=some (.lst xs)/\-(2 ^ 63)<=k/\k < 2 ^ 63/\xs.length*k.toNat<=sizeLine/\
 ∀p,H p=none->Q (.ref p) (upd H p (.lst (List.replicate k.toNat xs).flatten))
theorem len_rep {α:Type} (xs:List α) (k:Nat):(List.replicate k xs).flatten.length=k*xs.length:=by
 induction k with
 |zero=>simp
 |succ k ih=>rw [List.replicate_succ,List.flatten_cons,List.length_append,ih,Nat.succ_mul,Nat.add_comm]
theorem op_rep : OpR X (binaryOp .Mult) rRep := by
 intro pins s σ H x y v u Q I rx ry h
 obtain ⟨l, k, xs, rfl, rfl, hH, h1, h2, hz, q⟩ := h
 cases rx
 obtain ⟨t, rfl⟩ := ry
 obtain ⟨z, its, n, r, hl, e⟩ := I.lstM hH
 have hlen : its.toArray.size * k.toNat <= sizeLine := by rw [List.size_toArray, ← hl]; exact hz
 have hcap : ¬ its.toArray.size * k.toNat > (2 ^ 63 - 1) / 8 := by
  have : (sizeLine : Nat) <= (2 ^ 63 - 1) / 8 := by decide
  omega
 have hfit : ¬ (!Builtin.List.listFitsIndex k) = true := by
  rw [fitsIndex_both h1 h2]
  exact Bool.false_ne_true
 have hlong : ¬ Builtin.List.listTooLong (its.toArray.size * k.toNat) = true := by
  rw [notLongL hlen]
  exact Bool.false_ne_true
 have hnew : List.foldl (fun x1 x2 => x1 ++ x2) #[] (List.replicate (if its.toArray.isEmpty = true then 0 else k.toNat) its.toArray) = (List.replicate k.toNat its).flatten.toArray := by
  have f0 : ∀ m : Nat, List.foldl (fun x1 x2 => x1 ++ x2) #[] (List.replicate m its.toArray) = (List.replicate m its).flatten.toArray := fun m => by
   have := foldl_rep its m []
   rw [List.nil_append] at this
   exact this
  rw [f0]
  cases its with
  | nil => simp
  | cons a r' => rw [if_neg (by simp)]
 refine wpAny_binaryOp_repeat_ref (T := "list") (U := "int") (by decide) ⟨_, e, rfl⟩ (fun s' => typeIs_int s' k t) noFill_list_mul F.fills_int_mul F.slot_int_rmul repeat_list F.slot_int_index.lookup
  (call_meets F.slot_int_rmul (typeIs_int s k t) F.entry_int_rmul (F.args_int_rmul_2 _ _) (int___rmul___int_list k t l its.toArray n)
   ⟨e, rfl, ⟨_, e, rfl⟩, call_meets F.slot_list_mul ⟨_, e, rfl⟩ F.entry_list_mul (F.args_list_mul_2 _ _) (AutoListH.list___mul___list_int_3 l its.toArray n k t hfit hcap hlong) ⟨e, ?_⟩⟩)
 rw [hnew]
 exact ⟨.ref _, _, I.lnew (t' := s.toks) (r.rep k.toNat) (by rw [len_rep, Nat.mul_comm]; exact hz), rfl, q _ I.fresh⟩
end
end L2
namespace L2
open PySem PySem.Spec PyProof.Rows
theorem Vals.ints:∀{ns:List Int} {us:List Value},Vals (ns.map V.int) us->IntsAre us ns
 | [],us,h=>by
  rw [List.map_nil] at h
  cases h
  exact IntsAre.nil
 |n::ns,us,h=>by
  rw [List.map_cons] at h
  cases h with
  |cons r t=>
   obtain ⟨k,rfl⟩:=r
   exact IntsAre.cons n k (Vals.ints t)
theorem Vals.bls:∀{bs:List Bool} {us:List Value},Vals (bs.map V.bl) us->us=bs.map Value.bool
 | [],us,h=>by
  rw [List.map_nil] at h
  cases h
  rfl
 |b::bs,us,h=>by
  rw [List.map_cons] at h
  cases h with
  |cons r t=>
   cases r
   rw [Vals.bls t,List.map_cons]
theorem Vals.ref1 {a:Addr} {us:List Value} (r:Vals [V.ref a] us):us= [Value.ref a]:=by
 cases r with
 |cons r t=>
  cases t
  cases r
  rfl
section
variable {X:Cx}
theorem flat_at {ys:List V} (f:ys.all flatV=true) {j:Nat} {z:V} (h:ys[j]? =some z):flatV z=true:=List.all_eq_true.mp f z (List.mem_of_getElem? h)
end
theorem iter_any {prog : Program} {w : World} {A : Around} {E : Value -> Shared -> Prop} {s : Shared} {l : Addr} {items : Array Value} {Q : Value -> Shared -> Prop} (hl : s.heap.IsList l items)
  (h : ∀ s₂ : Shared, s₂ = { s with heap := s.heap.push { cls := .type "list_iterator", data := .fields #[.ref l, .int 0 0] } } ->
   (s₂.heap.IsListIter s.heap.objs.size l 0 /\ s₂.heap.IsList l items) -> l ≠ s.heap.objs.size -> Q (.ref s.heap.objs.size) s₂) : wpAny (model prog w) A (pyIter (.ref l)) Q E s := by
 have hlt : l < s.heap.objs.size := by obtain ⟨_, e, _⟩ := hl; exact Heap.lt_size e
 exact wpAny_pyIter_list hl (h _ rfl ⟨⟨_, Heap.get?_push_size _ rfl, rfl, rfl⟩, hl.push _⟩ (Nat.ne_of_lt hlt))
theorem truth_bools {prog:Program} {w:World} {A:Around} {bs:List Bool} {its:List Value} (e:its=bs.map Value.bool):
  TruthOf prog w A (fun i v=>its.toArray[i]? =some v) (fun i=>bs.getD i false):=fun i v s Q E hv hq=>by
 have hv':its[i]? =some v:=by simpa using hv
 rw [e,List.getElem?_map] at hv'
 obtain ⟨b,hb,rfl⟩:=Option.map_eq_some_iff.mp hv'
 have hg:bs.getD i false=b:=by rw [List.getD_eq_getElem?_getD,hb]<;>rfl
 have hq':Q (bs.getD i false) s:=hq
 rw [hg] at hq'
 exact wpAny_truthy_bool hq'
theorem any_range:∀bs:List Bool,(List.range bs.length).any (fun i=>bs.getD i false)=bs.any id
 | []=>rfl
 |b::bs=>by
  rw [List.length_cons,List.range_succ_eq_map,List.any_cons,List.any_map,List.any_cons,←any_range bs]
  all_goals rfl
theorem all_range:∀bs:List Bool,(List.range bs.length).all (fun i=>bs.getD i false)=bs.all id
 | []=>rfl
 |b::bs=>by
  rw [List.length_cons,List.range_succ_eq_map,List.all_cons,List.all_map,List.all_cons,←all_range bs]
  all_goals rfl
section
variable {X:Cx}
def rAny (K:PySem.W.Frag):List V->Hp->VK->Prop:=fun vs H Q=>∃(a:Addr) (bs:List Bool),vs= [V.ref a]/\SqL K H a (bs.map V.bl)/\Q (.bl (bs.any id)) H
def rAll (K:PySem.W.Frag):List V->Hp->VK->Prop:=fun vs H Q=>∃(a:Addr) (bs:List Bool),vs= [V.ref a]/\SqL K H a (bs.map V.bl)/\Q (.bl (bs.all id)) H
theorem cr_any (hc:X.calm=true):CallR X (.builtin "any") (rAny X.K):=by
 intro pins s σ H vs us Q I r h
 obtain ⟨a,bs,rfl,hs,q⟩:=h
 obtain ⟨its,rv,hl,_⟩:=I.list hs
 rw [Vals.ref1 r]
 have hb:=rv.bls
 refine call_any_walk (iter_any hl.isList fun s₂ e2 st hne=>?_)
 subst e2
 refine ⟨_,_,_,_,_,_,_,rfl,Walks.list (A:=X.A.in1) (I.ok.hd hc) _ a hne its.toArray,st,truth_bools hb,fun h' tk hk=>?_⟩
 refine ⟨.bl _,H,I.kept fun b o eo=>hk b o (fun hmem=>?_) (Heap.get?_push_of_some _ eo),?_,q⟩
 ·rcases List.mem_cons.mp hmem with e1|hmem
  ·exact absurd (e1▸Heap.lt_size eo) (Nat.lt_irrefl _)
  ·cases hmem
 ·show Value.bool _=Value.bool _
  rw [←any_range,hb,List.size_toArray,List.length_map]
theorem cr_all (hc:X.calm=true):CallR X (.builtin "all") (rAll X.K):=by
 intro pins s σ H vs us Q I r h
 obtain ⟨a,bs,rfl,hs,q⟩:=h
 obtain ⟨its,rv,hl,_⟩:=I.list hs
 rw [Vals.ref1 r]
 have hb:=rv.bls
 refine call_all_walk (iter_any hl.isList fun s₂ e2 st hne=>?_)
 subst e2
 refine ⟨_,_,_,_,_,_,_,rfl,Walks.list (A:=X.A.in1) (I.ok.hd hc) _ a hne its.toArray,st,truth_bools hb,fun h' tk hk=>?_⟩
 refine ⟨.bl _,H,I.kept fun b o eo=>hk b o (fun hmem=>?_) (Heap.get?_push_of_some _ eo),?_,q⟩
 ·rcases List.mem_cons.mp hmem with e1|hmem
  ·exact absurd (e1▸Heap.lt_size eo) (Nat.lt_irrefl _)
  ·cases hmem
 ·show Value.bool _=Value.bool _
  rw [←all_range,hb,List.size_toArray,List.length_map]
end
mutual
inductive Dp (K:PySem.W.Frag) (H:Hp):V->PyData->Prop
 |non:Dp K H .non .none
 |bl (b:Bool):Dp K H (.bl b) (.bool b)
 |int (i:Int):Dp K H (.int i) (.int i)
 |str (x:Str):Dp K H (.str x) (.str x)
 |lst {a:Addr} {xs:List V} {ds:List PyData}:SqL K H a xs->DpAll K H xs ds->Dp K H (.ref a) (.list ds)
 |tup {a:Addr} {xs:List V} {ds:List PyData}:SqT K H a xs->DpAll K H xs ds->Dp K H (.ref a) (.tuple ds)
inductive DpAll (K:PySem.W.Frag) (H:Hp):List V->List PyData->Prop
 |nil:DpAll K H [] []
 |cons {v:V} {vs:List V} {d:PyData} {ds:List PyData}:Dp K H v d->DpAll K H vs ds->DpAll K H (v::vs) (d::ds)
end
section
variable {X:Cx} {pins:List (Addr×Obj)} {σ:St} {H:Hp} {s:Shared}
mutual
theorem Dp.reads (I:Inv X pins σ H s):∀(d:PyData) (v:V) (u:Value),Dp X.K H v d->RelV v u->∃as,Reads s.heap u d as
 | .none,_,_,h,r=>by
  cases h
  cases r
  exact ⟨_,Reads.none⟩
 | .bool b,_,_,h,r=>by
  cases h
  cases r
  exact ⟨_,Reads.bool b⟩
 | .int i,_,_,h,r=>by
  cases h
  obtain ⟨t,rfl⟩:=r
  exact ⟨_,Reads.int i t⟩
 | .str x,_,_,h,r=>by
  cases h
  obtain ⟨t,rfl⟩:=r
  exact ⟨_,Reads.str x t⟩
 | .list ds,_,_,h,r=>by
  cases h with
  |lst hs ha=>
   cases r
   obtain ⟨its,rv,⟨o,n,ho,hc,_,hd⟩,_⟩:=I.list hs
   obtain ⟨as,hr⟩:=Dp.readsAll I ds _ its ha rv
   exact ⟨_,Reads.list ho hc hd hr⟩
 | .tuple ds,_,_,h,r=>by
  cases h with
  |tup hs ha=>
   cases r
   obtain ⟨its,rv,⟨o,ho,hc,n,hd⟩,_⟩:=I.tuple hs
   obtain ⟨as,hr⟩:=Dp.readsAll I ds _ its ha rv
   exact ⟨_,Reads.tuple ho hc hd hr⟩
 | .dict _,_,_,h,_=>by cases h
theorem Dp.readsAll (I:Inv X pins σ H s):∀(ds:List PyData) (vs:List V) (us:List Value),DpAll X.K H vs ds->Vals vs us->∃as,ReadsAll s.heap us ds as
 | [],_,_,h,r=>by
  cases h
  cases r
  exact ⟨_,ReadsAll.nil⟩
 |d::ds,_,_,h,r=>by
  cases h with
  |cons h1 h2=>
   cases r with
   |cons r1 r2=>
    obtain ⟨as,q1⟩:=Dp.reads I d _ _ h1 r1
    obtain ⟨bs,q2⟩:=Dp.readsAll I ds _ _ h2 r2
    exact ⟨_,ReadsAll.cons q1 q2⟩
end
end
section
variable {X:Cx}
def rEqD (K:PySem.W.Frag):R2:=fun x y H Q=>∃d e,Dp K H x d/\Dp K H y e/\SeqAt.shaped d=true/\SeqAt.shaped e=true/\Q (.bl (PyData.eqv d e)) H
def rNeD (K:PySem.W.Frag):R2:=fun x y H Q=>∃d e,Dp K H x d/\Dp K H y e/\SeqAt.shaped d=true/\SeqAt.shaped e=true/\Q (.bl (!PyData.eqv d e)) H
theorem op_eqD (hu:X.A.units+64 < cLine):OpR X (compareOp .Eq) (rEqD X.K):=by
 intro pins s σ H x y v u Q I rx ry h
 obtain ⟨d,e,hd,he,sd,se,q⟩:=h
 obtain ⟨as,r1⟩:=Dp.reads I d x v hd rx
 obtain ⟨bs,r2⟩:=Dp.reads I e y u he ry
 exact SeqAt.compareEq_shaped r1 r2 sd se hu ⟨.bl _,H,I,rfl,q⟩
theorem op_neD (hu:X.A.units+64 < cLine):OpR X (compareOp .NotEq) (rNeD X.K):=by
 intro pins s σ H x y v u Q I rx ry h
 obtain ⟨d,e,hd,he,sd,se,q⟩:=h
 obtain ⟨as,r1⟩:=Dp.reads I d x v hd rx
 obtain ⟨bs,r2⟩:=Dp.reads I e y u he ry
 exact SeqAt.compareNe_shaped r1 r2 sd se hu ⟨.bl _,H,I,rfl,q⟩
end
end L2
namespace L2
open PySem PySem.Spec PyProof.Rows
abbrev CellAt (h:Heap) (c:Addr) (v:Option Value):Prop:=h.IsCell c v
def relS (scope sc:Scope):Scope:=
 {scope with names:=scope.names.map fun (n,k)=>if (k== .free&&sc.kind== .function&&sc.names.lookup n==some .cell) then (n,.cell) else (n,k)}
def cloFrom (cells:List (Str×Addr)):List (Str×NameKind)->List (Str×Addr)->List (Str×Addr)
 | [],acc=>acc
 |(n,k)::r,acc=>if k== .free then cloFrom cells r ((n,(cells.lookup n).getD 0)::acc) else cloFrom cells r acc
theorem closure_loop (env:Env) (f:Str×NameKind->List (Str×Addr)->Sem (ForInStep (List (Str×Addr))))
  (hf:∀n k c,f (n,k) c=if k== .free then (do let a ←cellOf env n;pure (.yield ((n,a)::c))) else pure (.yield c)):
  ∀(names:List (Str×NameKind)) (acc:List (Str×Addr)),(∀y∈names,y.2= .free->∃c,env.cells.lookup y.1=some c)->forIn names acc f=pure (cloFrom env.cells names acc)
 | [],acc,_=>by rw [List.forIn_nil];rfl
 |(n,k)::r,acc,h=>by
  rw [List.forIn_cons,hf]
  have ih:=fun acc=>closure_loop env f hf r acc fun y hy=>h y (List.mem_cons_of_mem _ hy)
  unfold cloFrom
  by_cases hk:(k==NameKind.free)=true
  ·rw [if_pos hk,if_pos hk]
   obtain ⟨c,hc⟩:=h (n,k) List.mem_cons_self (by simpa using hk)
   have e:cellOf env n=pure c:=by unfold cellOf;rw [hc]
   rw [e]
   have e2:(env.cells.lookup n).getD 0=c:=by rw [hc];rfl
   rw [e2]
   exact ih _
  ·rw [if_neg hk,if_neg hk]
   exact ih _
theorem closure_ok {scope:Scope} {env:Env} (h:∀y∈scope.names,y.2= .free->∃c,env.cells.lookup y.1=some c):closureFor scope env=pure (cloFrom env.cells scope.names []):=by
 simp only [closureFor]
 rw [closure_loop env _ (fun n k c=>rfl) scope.names [] h]
 rfl
theorem mem_lookup {α:Type}:∀{l:List (Str×α)} {n:Str} {c:α},(n,c)∈l->∃c',l.lookup n=some c'
 |(k,v)::r,n,c,h=>by
  rw [List.lookup_cons]
  cases hb:n==k with
  |true=>exact ⟨_,rfl⟩
  |false=>
   rcases List.mem_cons.mp h with e|h
   ·cases e;simp at hb
   ·exact mem_lookup h
theorem cloFrom_mem {cells : List (Str × Addr)} : ∀ {names : List (Str × NameKind)} {acc : List (Str × Addr)} {n : Str} {c : Addr}, (n, c) ∈ cloFrom cells names acc -> (n, c) ∈ acc ∨ ((n, .free) ∈ names /\ c = (cells.lookup n).getD 0)
 | [], _, _, _, h => .inl h
 | (m, k) :: r, acc, n, c, h => by
  unfold cloFrom at h
  split at h
  ·rename_i hk
   have hk : k = .free := by simpa using hk
   rcases cloFrom_mem h with h | ⟨h1, h2⟩
   ·rcases List.mem_cons.mp h with e | h
    ·cases e; exact .inr ⟨hk ▸ List.mem_cons_self, rfl⟩
    ·exact .inl h
   ·exact .inr ⟨List.mem_cons_of_mem _ h1, h2⟩
  ·rcases cloFrom_mem h with h | ⟨h1, h2⟩
   ·exact .inl h
   ·exact .inr ⟨List.mem_cons_of_mem _ h1, h2⟩
theorem cloFrom_acc {cells:List (Str×Addr)}:∀{names:List (Str×NameKind)} {acc:List (Str×Addr)} {p:Str×Addr},p∈acc->p∈cloFrom cells names acc
 | [],_,_,h=>h
 |(m,k)::r,acc,p,h=>by
  unfold cloFrom
  split
  ·exact cloFrom_acc (List.mem_cons_of_mem _ h)
  ·exact cloFrom_acc h
theorem cloFrom_has {cells:List (Str×Addr)}:∀{names:List (Str×NameKind)} {acc:List (Str×Addr)} {n:Str},(n,.free)∈names->(n,(cells.lookup n).getD 0)∈cloFrom cells names acc
 |(m,k)::r,acc,n,h=>by
  unfold cloFrom
  rcases List.mem_cons.mp h with e|h
  ·cases e
   exact cloFrom_acc List.mem_cons_self
  ·split
   ·exact cloFrom_has h
   ·exact cloFrom_has h
theorem cells_mem : ∀ {names : List (Str × NameKind)} {h : Heap} {acc : List (Str × Addr)} {x : Str} {c : Addr}, (x, c) ∈ cellsFrom h.objs.size names acc ->
  (x, c) ∈ acc ∨ ((x, .cell) ∈ names /\ h.objs.size <= c /\ CellAt (pushCells h names) c none)
 | [], _, _, _, _, h => .inl h
 | (n, k) :: r, h, acc, x, c, hm => by
  unfold cellsFrom at hm
  unfold pushCells
  split at hm
  ·rename_i hk
   rw [if_pos hk]
   have hk : k = .cell := by simpa using hk
   rw [← Heap.size_push h { cls := .type "cell", data := .cell none }] at hm
   rcases cells_mem hm with hm | ⟨h1, h2, h3⟩
   ·rcases List.mem_cons.mp hm with e | hm
    ·cases e
     exact .inr ⟨hk ▸ List.mem_cons_self, Nat.le_refl _, _, pushCells_keeps r _ _ _ (Heap.get?_push_size _ rfl), rfl⟩
    ·exact .inl hm
   ·rw [Heap.size_push] at h2
    exact .inr ⟨List.mem_cons_of_mem _ h1, Nat.le_of_succ_le h2, h3⟩
  ·rename_i hk
   rw [if_neg hk]
   rcases cells_mem hm with hm | ⟨h1, h2, h3⟩
   ·exact .inl hm
   ·exact .inr ⟨List.mem_cons_of_mem _ h1, h2, h3⟩
theorem cells_acc:∀{names:List (Str×NameKind)} {n:Nat} {acc:List (Str×Addr)} {p:Str×Addr},p∈acc->p∈cellsFrom n names acc
 | [],_,_,_,h=>h
 |(m,k)::r,n,acc,p,h=>by
  unfold cellsFrom
  split
  ·exact cells_acc (List.mem_cons_of_mem _ h)
  ·exact cells_acc h
theorem cells_has:∀{names:List (Str×NameKind)} {n:Nat} {acc:List (Str×Addr)} {x:Str},(x,.cell)∈names->∃c,(x,c)∈cellsFrom n names acc
 |(m,k)::r,n,acc,x,h=>by
  unfold cellsFrom
  rcases List.mem_cons.mp h with e|h
  ·cases e
   exact ⟨n,cells_acc List.mem_cons_self⟩
  ·split
   ·exact cells_has h
   ·exact cells_has h
theorem cells_inj : ∀ {names : List (Str × NameKind)} {h : Heap} {acc : List (Str × Addr)} {x y : Str} {c : Addr}, (∀ p ∈ acc, p.2 < h.objs.size) -> (∀ x y c, (x, c) ∈ acc -> (y, c) ∈ acc -> x = y) ->
  (x, c) ∈ cellsFrom h.objs.size names acc -> (y, c) ∈ cellsFrom h.objs.size names acc -> x = y
 | [], _, _, _, _, _, _, hi, h1, h2 => hi _ _ _ h1 h2
 | (n, k) :: r, h, acc, x, y, c, hl, hi, h1, h2 => by
  unfold cellsFrom at h1 h2
  split at h1
  ·rename_i hk
   rw [if_pos hk] at h2
   rw [← Heap.size_push h { cls := .type "cell", data := .cell none }] at h1 h2
   refine cells_inj (h := h.push _) (fun p hp => ?_) (fun x y c a b => ?_) h1 h2
   ·rw [Heap.size_push]
    rcases List.mem_cons.mp hp with rfl | hp
    ·exact Nat.lt_succ_self _
    ·exact Nat.lt_succ_of_lt (hl p hp)
   ·rcases List.mem_cons.mp a with e | a <;> rcases List.mem_cons.mp b with e' | b
    ·cases e; cases e'; rfl
    ·cases e; exact absurd (hl _ b) (Nat.lt_irrefl _)
    ·cases e'; exact absurd (hl _ a) (Nat.lt_irrefl _)
    ·exact hi _ _ _ a b
  ·rename_i hk
   rw [if_neg hk] at h2
   exact cells_inj hl hi h1 h2
theorem newEnv_comp {M : Model} {A : Around} {E : Value -> Shared -> Prop} {s : Shared} {scope : Scope} {globals : Addr} {closure : List (Str × Addr)} {qual : Str} {func : Option Addr} {code : Value} {around : Env} {builtins : Addr} {Q : Env -> Shared -> Prop}
  (h : Q (newEnv scope s.heap.objs.size globals (cellsFrom (s.heap.objs.size + 1) scope.names closure) qual func code (some around) builtins)
   { s with heap := pushCells (s.heap.push { cls := .type "dict", data := .dict #[] }) scope.names }) :
  wpAny M A (newFunctionEnv scope globals closure [] qual func code (some around) builtins) Q E s := by
 simp only [newFunctionEnv, Option.isSome_some, if_true]
 refine wpAny_bind (wpAny_alloc ?_)
 refine wpAny_bind (wpAny_layCells _ (fun n k c => rfl) scope.names closure _ _ ?_)
 rw [show ({ s with heap := s.heap.push { cls := .type "dict", data := .dict #[] } } : Shared).heap.objs.size = s.heap.objs.size + 1 from Heap.size_push ..]
 rw [List.forIn_nil]
 exact wpAny_bind (wpAny_pure (wpAny_pure h))
theorem lookup_relS {sc : Scope} : ∀ {names : List (Str × NameKind)} {x : Str} {k : NameKind},
  (names.map fun (n, k) => if (k == NameKind.free && sc.kind == .function && sc.names.lookup n == some .cell) then (n, NameKind.cell) else (n, k)).lookup x = some k ->
  ∃ k', names.lookup x = some k' /\ (k = k' ∨ (k' = .free /\ k = .cell))
 | [], _, _, h => by simp at h
 | (n, k₀) :: r, x, k, h => by
  have ih := @lookup_relS sc r x k
  have h' : List.lookup x ((if (k₀ == NameKind.free && sc.kind == .function && sc.names.lookup n == some .cell) = true then (n, NameKind.cell) else (n, k₀)) :: (r.map _)) = some k := h
  cases hx : x == n with
  | true =>
   simp only [List.lookup_cons, hx]
   by_cases hc : (k₀ == NameKind.free && sc.kind == .function && sc.names.lookup n == some .cell) = true
   ·rw [if_pos hc] at h'
    simp only [List.lookup_cons, hx] at h'
    cases h'
    simp only [Bool.and_eq_true, beq_iff_eq] at hc
    exact ⟨k₀, rfl, .inr ⟨hc.1.1, rfl⟩⟩
   ·rw [if_neg hc] at h'
    simp only [List.lookup_cons, hx] at h'
    cases h'
    exact ⟨_, rfl, .inl rfl⟩
  | false =>
   simp only [List.lookup_cons, hx]
   by_cases hc : (k₀ == NameKind.free && sc.kind == .function && sc.names.lookup n == some .cell) = true
   ·rw [if_pos hc] at h'
    simp only [List.lookup_cons, hx] at h'
    exact ih h'
   ·rw [if_neg hc] at h'
    simp only [List.lookup_cons, hx] at h'
    exact ih h'
structure BlkOk (N:List Str) (sc scope:Scope) (own:List (Str×Nat)):Prop where
 kind:scope.kind= .function
 uniq:∀y∈scope.names,scope.names.lookup y.1=some y.2
 ix:∀p∈own,N[p.2]? =some p.1
 free:∀y∈scope.names,y.2= .free->sc.names.lookup y.1=some .cell∨sc.names.lookup y.1=some .free
 own:∀y∈scope.names,y.2= .local∨y.2= .cell->y.1∈own.map (·.1)∨y.1∉N
def wipe (σ:St):List Nat->St
 | []=>σ
 |v::vs=>(wipe σ vs).set v none
theorem wipe_length (σ:St):∀vs:List Nat,(wipe σ vs).length=σ.length
 | []=>rfl
 |v::vs=>by unfold wipe;rw [List.length_set,wipe_length σ vs]
theorem wipe_some {σ:St} {i:Nat} {x:V}:∀{vs:List Nat},(wipe σ vs)[i]? =some (some x)->σ[i]? =some (some x)/\i∉vs
 | [],h=>⟨h,by simp⟩
 |v::vs,h=>by
  unfold wipe at h
  by_cases hi:v=i
  ·subst hi
   by_cases hv:v < (wipe σ vs).length
   ·rw [List.getElem?_set_self hv] at h;cases h
   ·rw [List.getElem?_eq_none (by simpa using hv)] at h;cases h
  ·rw [List.getElem?_set_ne hi] at h
   obtain ⟨h1,h2⟩:=wipe_some h
   exact ⟨h1,by simp only [List.mem_cons,not_or];exact ⟨fun e=>hi e.symm,h2⟩⟩
abbrev Cx.blk (X:Cx) (s:Shared) (H:Hp) (scope:Scope) (cenv:Env) (fp:List Addr):Cx:={X with s_0:=s,H_0:=H,env:=cenv,outer:=X.stack,ex:=fp,fn:=fun x=>scope.names.lookup x==some .cell,pn:= [],xe:=fun _ _=>False}
section
variable {X:Cx} {pins:List (Addr×Obj)} {σ:St} {H:Hp} {s:Shared}
theorem block_start {scope:Scope} {own:List (Str×Nat)} {fp:List Addr} (I:Inv X pins σ H s) (ok:BlkOk X.N X.env.scope scope own) (hN:X.N.Nodup) (hfp:∀b∈fp,FpOk X pins H b/\b < s.heap.objs.size):
  Inv (X.blk s H scope (compEnvC scope (cellsFrom (s.heap.objs.size+1) scope.names (cloFrom X.env.cells scope.names [])) s.heap.objs.size X.env) fp) [] (wipe σ (own.map (·.2))) H {s with heap:=pushCells (s.heap.push {cls:= .type "dict",data:= .dict #[]}) scope.names}:=by
 have hfree:∀y∈scope.names,y.2= .free->∃c,X.env.cells.lookup y.1=some c:=fun y hy e=>by
  rcases ok.free y hy e with k|k
  ·exact I.ok.has _ (.inl k)
  ·exact I.ok.has _ (.inr k)
 generalize hcenv:compEnvC scope (cellsFrom (s.heap.objs.size+1) scope.names (cloFrom X.env.cells scope.names [])) s.heap.objs.size X.env=cenv
 have kp:∀b o,s.heap.get? b=some o->(pushCells (s.heap.push {cls:= .type "dict",data:= .dict #[]}) scope.names).get? b=some o:=fun b o e=>pushCells_keeps _ _ _ _ (Heap.get?_push_of_some _ e)
 have hL:cenv.locals=s.heap.objs.size:=by rw [←hcenv];rfl
 have hcl:cenv.cells=cellsFrom (s.heap.objs.size+1) scope.names (cloFrom X.env.cells scope.names []):=by rw [←hcenv];rfl
 have hsc:cenv.scope=relS scope X.env.scope:=by rw [←hcenv];rfl
 rw [←Heap.size_push s.heap {cls:= .type "dict",data:= .dict #[]}] at hcl
 have cm:∀{y c},(y,c)∈cloFrom X.env.cells scope.names []->X.env.cells.lookup y=some c/\c < s.heap.objs.size:=fun {y c} hm=>by
  rcases cloFrom_mem hm with hm|⟨h1,rfl⟩
  ·cases hm
  ·obtain ⟨c,hc⟩:=hfree _ h1 rfl
   rw [hc]
   obtain ⟨w,z⟩:=I.cell _ _ hc
   exact ⟨rfl,z.lt⟩
 have mem:∀{y c},cenv.cells.lookup y=some c->(X.env.cells.lookup y=some c/\c < s.heap.objs.size)∨(s.heap.objs.size+1<=c/\CellAt (pushCells (s.heap.push {cls:= .type "dict",data:= .dict #[]}) scope.names) c none):=fun {y c} e=>by
  rw [hcl] at e
  rcases cells_mem (PySem.mem_of_lookup e) with hm|⟨_,h2,h3⟩
  ·exact .inl (cm hm)
  ·rw [Heap.size_push] at h2;exact .inr ⟨h2,h3⟩
 have look:∀{y},scope.names.lookup y=some .free->∃c,cenv.cells.lookup y=some c/\X.env.cells.lookup y=some c:=fun {y} hl=>by
  have hy:(y,NameKind.free)∈scope.names:=PySem.mem_of_lookup hl
  obtain ⟨c',e'⟩:=mem_lookup (cells_acc (names:=scope.names) (n:=(s.heap.push {cls:= .type "dict",data:= .dict #[]}).objs.size) (cloFrom_has (cells:=X.env.cells) (acc:= []) hy))
  rw [←hcl] at e'
  refine ⟨c',e',?_⟩
  rw [hcl] at e'
  rcases cells_mem (PySem.mem_of_lookup e') with hm|⟨h1,_,_⟩
  ·exact (cm hm).1
  ·have:=ok.uniq _ h1
   rw [hl] at this;cases this
 have okB:(X.blk s H scope cenv fp).Ok:=by
  refine ⟨I.ok.mod,by show cenv.scope.kind=_;rw [hsc];exact ok.kind,by show cenv.globals=_;rw [←hcenv];exact I.ok.glob,by show cenv.builtins=_;rw [←hcenv];exact I.ok.blt,by show s.heap.objs.size<=cenv.locals;rw [hL];exact Nat.le_refl _,
   fun y z c e1 e2=>?_,fun y hy=>?_,fun y c z e=>?_,I.ok.hd,I.ok.frames,.inl rfl,fun b hb=>⟨?_,fun y c e z=>?_⟩,I.bs,Nat.le_trans I.ok.bsz I.sz,fun b o e hb=>?_,fun b hb z=>?_,I.stack,I.stkFree⟩
  ·have e1:cenv.cells.lookup y=some c:=e1
   have e2:cenv.cells.lookup z=some c:=e2
   rw [hcl] at e1 e2
   refine cells_inj (fun p hp=>?_) (fun y z c a b=>I.ok.inj y z c (cm a).1 (cm b).1) (PySem.mem_of_lookup e1) (PySem.mem_of_lookup e2)
   rw [Heap.size_push]
   exact Nat.lt_succ_of_lt (cm (y:=p.1) (c:=p.2) hp).2
  ·show ∃c,cenv.cells.lookup y=some c
   have key:∀k,cenv.kindOf y=some k->(k= .cell∨k= .free)->∃c,cenv.cells.lookup y=some c:=fun k hk hk'=>by
    unfold Env.kindOf at hk
    rw [hsc] at hk
    obtain ⟨k',e,r⟩:=lookup_relS hk
    have:k'= .cell∨k'= .free:=by
     rcases r with rfl|⟨rfl,_⟩
     ·exact hk'
     ·exact .inr rfl
    rcases this with rfl|rfl
    ·obtain ⟨c,hm⟩:=cells_has (n:=(s.heap.push {cls:= .type "dict",data:= .dict #[]}).objs.size) (acc:=cloFrom X.env.cells scope.names []) (PySem.mem_of_lookup e)
     obtain ⟨c',e'⟩:=mem_lookup hm
     exact ⟨c',by rw [hcl];exact e'⟩
    ·obtain ⟨c,h1,_⟩:=look e
     exact ⟨c,h1⟩
   rcases hy with hy|hy
   ·exact key _ hy (.inl rfl)
   ·exact key _ hy (.inr rfl)
  ·have z:(scope.names.lookup y==some NameKind.cell)=true:=z
   have z:scope.names.lookup y=some .cell:=by simpa using z
   have e:cenv.cells.lookup y=some c:=e
   rw [hcl] at e
   rcases cells_mem (PySem.mem_of_lookup e) with hm|⟨_,h2,_⟩
   ·rcases cloFrom_mem hm with hm|⟨h1,_⟩
    ·cases hm
    ·have q:=ok.uniq _ h1
     rw [z] at q;cases q
   ·rw [Heap.size_push] at h2
    exact Nat.le_of_succ_le h2
  ·show b≠cenv.locals
   rw [hL];exact Nat.ne_of_lt (hfp b hb).2
  ·have e:cenv.cells.lookup y=some c:=e
   rcases mem e with ⟨h1,_⟩|⟨h1,_⟩
   ·exact (hfp b hb).1.2.2.2.2.1 y c h1 z
   ·have h2:s.heap.objs.size+1<=b:=by rw [←z];exact h1
    exact absurd (Nat.lt_of_lt_of_le (hfp b hb).2 (Nat.le_of_succ_le h2)) (Nat.lt_irrefl _)
  ·rcases (hfp b hb).1.2.2.2.1 with z|z
   ·exact I.ok.noex b o e z
   ·exact absurd (Nat.lt_of_lt_of_le (Heap.lt_size e) (Nat.le_trans I.ok.bsz z)) (Nat.lt_irrefl _)
  ·rcases List.mem_cons.mp (I.stkSub b z) with z|z
   ·exact (hfp b hb).1.2.1 z
   ·exact (hfp b hb).1.2.2.1 z
 refine ⟨okB,rfl,I.bare,Un.kept kp,⟨fun _=>none,?_,fun i y av e1 e2 e3=>?_⟩,fun y c e=>?_,?_,fun y c e=>?_,fun p hp=>?_,I.hok.kept kp,by rw [wipe_length];exact I.len⟩
 ·show Heap.Ns _ cenv.locals _
  rw [hL]
  exact Heap.Ns.keeps (Heap.Ns.new ..) fun b o e=>pushCells_keeps _ _ _ _ e
 ·obtain ⟨e2,hne⟩:=wipe_some e2
  have hfr:scope.names.lookup y=some .free/\(cenv.kindOf y=some .cell∨cenv.kindOf y=some .free):=by
   have key:∀k,cenv.scope.names.lookup y=some k->k= .local∨k= .cell∨k= .free->scope.names.lookup y=some .free/\(cenv.kindOf y=some .cell∨cenv.kindOf y=some .free):=fun k hk hk'=>by
    have hk0:=hk
    rw [hsc] at hk
    obtain ⟨k',e,r⟩:=lookup_relS hk
    have no:¬(k'= .local∨k'= .cell):=fun hh=>by
     rcases ok.own _ (PySem.mem_of_lookup e) hh with e'|e'
     ·obtain ⟨p,hp,hpy⟩:=List.mem_map.mp e'
      have e3:=ok.ix p hp
      have:p.1=y:=hpy
      rw [this] at e3
      exact hne (List.mem_map.mpr ⟨p,hp,nodup_ix hN e3 e1⟩)
     ·exact e' (List.mem_of_getElem? e1)
    rcases r with rfl|⟨rfl,rfl⟩
    ·rcases hk' with rfl|rfl|rfl
     ·exact absurd (.inl rfl) no
     ·exact absurd (.inr rfl) no
     ·exact ⟨e,.inr hk0⟩
    ·exact ⟨e,.inl hk0⟩
   have e3:Vis cenv.scope y:=e3
   rcases e3 with e3|e3|e3
   ·exact key _ e3 (.inl rfl)
   ·exact key _ e3 (.inr (.inl rfl))
   ·exact key _ e3 (.inr (.inr rfl))
  obtain ⟨m,hn,hl⟩:=I.loc
  have hvis:Vis X.env.scope y:=(ok.free _ (PySem.mem_of_lookup hfr.1) rfl).elim (fun k=> .inr (.inl k)) (fun k=> .inr (.inr k))
  obtain ⟨w,r,q⟩:=hl i y av e1 e2 hvis
  refine ⟨w,r,.inr ⟨hfr.2,?_⟩⟩
  obtain ⟨c,h1,h2⟩:=look hfr.1
  rcases q with ⟨k,_⟩|⟨_,c',e',z⟩
  ·have k:X.env.scope.names.lookup y=some .local:=k
   rcases ok.free _ (PySem.mem_of_lookup hfr.1) rfl with k'|k'<;>rw [show X.env.scope.names.lookup y=_ from k'] at k<;>cases k
  ·rw [h2] at e';cases e'
   exact ⟨c,h1,z.keeps kp⟩
 ·have e:cenv.cells.lookup y=some c:=e
  rcases mem e with ⟨h1,_⟩|⟨_,z⟩
  ·obtain ⟨w,z⟩:=I.cell y c h1
   exact ⟨w,z.keeps kp⟩
  ·exact ⟨_,z⟩
 ·show H cenv.locals=none
  rw [hL];exact I.hok.fresh (Nat.le_refl _)
 ·have e:cenv.cells.lookup y=some c:=e
  rcases mem e with ⟨h1,_⟩|⟨h1,_⟩
  ·exact I.freeC y c h1
  ·exact I.hok.fresh (Nat.le_of_succ_le h1)
 ·exact absurd (show p∈([]:List (Addr×Obj))++ [] from hp) (by simp)
theorem app_ok {E:Value->Shared->Prop} {D:Addr} {xs:List V} {y:V} {v:Value} {Q:Value->Shared->Prop} (I:Inv X pins σ H s) (hD:H D=some (.lst xs)) (hz:xs.length < sizeLine) (r:RelV y v)
  (h:∀s',Inv X pins σ (upd H D (.lst (xs++ [y]))) s'->Q .none s'):wpAny (model X.prog X.w) X.A (call (.builtin "list.append") [.ref D,v]) Q E s:=by
 obtain ⟨hz',its,n,ri,e⟩:=I.hok D _ hD
 have hl:=ri.length
 refine append_at (hsz:=by rw [List.size_toArray];omega) e fun h' sb ho'=>?_
 refine h {s with heap:=h'} (I.write (t':=s.toks) (by rw [hD];trivial) (.inl rfl) (fun b u hb q=>(sb.2 b hb).trans q) ⟨_,ho'⟩ ⟨by rw [List.length_append];exact hz,its++ [v],n+1,ri.append (.cons r .nil),?_⟩)
 rw [ho']
 simp
def PTs (X:Cx) (ifs:List Expr) (t:TT):Prop:=
 ∀(pins:List (Addr×Obj)) (s:Shared) (σ:St) (H:Hp) (Q:Bool->Hp->Prop),Inv X pins σ H s->t σ H Q->
  wpAny (model X.prog X.w) X.A (forIn ifs true fun c r=>if r=true then do let ok ←isTrue c X.env (eval c X.env);pure (ForInStep.yield ok) else pure (ForInStep.yield r)) (TP X pins σ Q) X.xe s
def tYes:TT:=fun _ H Q=>Q true H
theorem pts_nil:PTs X [] tYes:=fun _ _ _ H _ I h=>wpAny_tests_nil ⟨H,I,h⟩
theorem pts_one {c:Expr} {t:TT} (h:PT X c t):PTs X [c] t:=fun pins s σ H Q I hw=>wpAny_tests_one (h pins s σ H Q I hw)
end
theorem thnF {α:Type} {t:Sem α} {Q Q':α->Shared->Prop} {M:Model} {A:Around} {E:Value->Shared->Prop} {s:Shared} (h:wpAny M A t Q (fun _ _=>False) s) (hQ:∀a s,Q a s->Q' a s):wpAny M A t Q' E s:=wpAny_mono h hQ fun _ _ z=>False.elim z
theorem compLoop_any {prog : Program} {w : World} {A : Around} {R : Result -> Shared -> Prop} {s : Shared} {elt target iter : Expr} {ifs : List Expr} {scope : Scope} {pos : Pos} {it acc : Value} {env : Env} (I : Nat -> Shared -> Prop)
  (turn : ∀ n s, I n s -> wpAny (model prog w) A (pyNext it) (fun r s₁ => match r with
   | none => R (.ok .next) s₁
   | some v => wpAny (model prog w) A (letOwnedTupleGo target it v) (fun _ s₁' => wpAny (model prog w) A (assign target env v) (fun _ s₂ =>
     wpAny (model prog w) A (forIn ifs true fun c r => if r = true then do let ok ← isTrue c env (eval c env); pure (ForInStep.yield ok) else pure (ForInStep.yield r)) (fun ok s₃ =>
      if ok = true then wpAny (model prog w) A (eval elt env) (fun x s₄ =>
       wpAny (model prog w) A (call (.builtin "list.append") [acc, x]) (fun _ s₅ => ∃ m, m < n /\ I m s₅) (notedBy (model prog w) A env fun e s' => R (.error e) s') s₄) (notedBy (model prog w) A env fun e s' => R (.error e) s') s₃
      else ∃ m, m < n /\ I m s₃) (notedBy (model prog w) A env fun e s' => R (.error e) s') s₂) (notedBy (model prog w) A env fun e s' => R (.error e) s') s₁') (notedBy (model prog w) A env fun e s' => R (.error e) s') s₁) (notedBy (model prog w) A env fun e s' => R (.error e) s') s)
  (n : Nat) (h : I n s) :
  codeAny (model prog w) A (.compLoop (.ListComp elt [⟨target, iter, ifs, 0⟩] scope pos) 0 it acc env) R s := by
 refine codeAny_loop rfl I (fun n s hI => ?_) n h
 show wpAny _ A ((compTurn (.ListComp elt [⟨target, iter, ifs, 0⟩] scope pos) 0 it acc env).onRaise (fun x => do noteFrame x env; theTreesLotGoes x)) _ _ s
 refine wpAny_noted ?_
 rw [compTurn_list]
 refine wpAny_bind (wpAny_standAt (wpAny_bind (wpAny_mono (turn n s hI) (fun r s₁ h₁ => ?_) fun _ _ h' => h')))
 cases r with
 | none => exact wpAny_pure h₁
 | some v =>
  refine wpAny_bind (wpAny_mono h₁ (fun _ s₁' h₁' => ?_) fun _ _ h' => h')
  refine wpAny_bind (wpAny_mono h₁' (fun _ s₂ h₂ => wpAny_bind (wpAny_mono h₂ (fun ok s₃ h₃ => ?_) fun _ _ h' => h')) fun _ _ h' => h')
  cases ok with
  | false => exact wpAny_pure ⟨rfl, h₃⟩
  | true =>
   exact wpAny_bind (wpAny_bind (wpAny_mono h₃ (fun x s₄ h₄ => wpAny_bind (wpAny_mono h₄ (fun _ s₅ h₅ => wpAny_pure (wpAny_pure ⟨rfl, h₅⟩)) fun _ _ h' => h')) fun _ _ h' => h'))
section
variable {X:Cx}
def tLc (wi : TI) (g : TG) (tt : TT) (te : TE) (vs : List Nat) : TE := fun σ H Q => wi σ H fun J H1 => ∀ D, H1 D = none -> ∃ W : Nat -> Nat -> Hp -> Prop, (∃ m, W 0 m (upd H1 D (.lst []))) /\ ∀ i m H, W i m H ->
 (J.stop i H /\ Q (.ref D) H) ∨ (J.go i H /\ ∃ Nx : Hp -> Prop, (∀ H', Nx H' -> ∃ m', m' < m /\ W (i + 1) m' H') /\ ∀ x H', J.yld i H x H' -> g x (wipe σ vs) H' fun σ2 H2 => wipe σ2 vs = wipe σ vs /\ tt σ2 H2 fun b H3 =>
  if b = true then te σ2 H3 fun y H4 => ∃ acc, H4 D = some (.lst acc) /\ acc.length < sizeLine /\ Nx (upd H4 D (.lst (acc ++ [y]))) else Nx H3)
theorem lc_core {pins : List (Addr × Obj)} {s : Shared} {σ : St} {H : Hp} {Q : VK} {elt tg iter : Expr} {ifs : List Expr} {scope : Scope} {own : List (Str × Nat)} {pos pos' : Pos} {wi : TI} {g : TG} {tt : TT} {te : TE} {use : Option (Value -> Sem Unit)} {Qf : Value -> Shared -> Prop}
  (hc : X.calm = true) (hN : X.N.Nodup) (I : Inv X pins σ H s) (hi : PI X tg iter wi) (ok : BlkOk X.N X.env.scope scope own)
  (hg : ∀ (s : Shared) (H : Hp) (C : Addr) (cl : List (Str × Addr)) (fp : List Addr), PG (X.blk s H scope (compEnvC scope cl C X.env) fp) tg g) (ht : ∀ (s : Shared) (H : Hp) (C : Addr) (cl : List (Str × Addr)) (fp : List Addr), PTs (X.blk s H scope (compEnvC scope cl C X.env) fp) ifs tt)
  (he : ∀ (s : Shared) (H : Hp) (C : Addr) (cl : List (Str × Addr)) (fp : List Addr), PE (X.blk s H scope (compEnvC scope cl C X.env) fp) elt te) (hs : ∀ x, foldedSetIterable iter X.env x = pure x)
  (h : tLc wi g tt te (own.map (·.2)) σ H Q)
  (hRR : ∀ D C s' m H', Inv X pins σ H' s' -> Q (.ref D) H' -> s'.heap.Ns C m -> FpOk X pins H' C -> compPost (model X.prog X.w) X.A X.xe use Qf (.ref D) C (.ok .next) s') :
  wpAny (model X.prog X.w) X.A (comprehension (.ListComp elt [⟨tg, iter, ifs, 0⟩] scope pos) scope X.env pos' (newList []) false (eval iter X.env) use) Qf X.xe s := by
 have hfree : ∀ y ∈ scope.names, y.2 = .free -> ∃ c, X.env.cells.lookup y.1 = some c := fun y hy e => by
  rcases ok.free y hy e with k | k
  ·exact I.ok.has _ (.inl k)
  ·exact I.ok.has _ (.inr k)
 refine wpAny_comprehension_free (use := use) rfl hs (closure_ok hfree) ok.kind (fun y hy e => by rw [ok.uniq y hy, e])
  (thn (hi pins s σ H _ I h) fun xv s1 hx => thn hx fun itv s2 h2 => ?_)
 obtain ⟨it, fp, tn, J, H2, e, I2, T, st2, f2, q⟩ := h2
 subst e
 refine wpAny_newObj_type (newEnv_comp ?_) (by show 0 <= sizeLine; decide)
 generalize hD : s2.heap.objs.size = D
 have hDn : H2 D = none := I2.hok.fresh (Nat.le_of_eq hD)
 obtain ⟨W, ⟨m0, w0⟩, turn⟩ := q D hDn
 -- the new list
 generalize hs3 : ({ s2 with heap := s2.heap.push { cls := .type "list", data := .seq ([] : List Value).toArray } } : Shared) = s3
 have I3 : Inv X pins σ (upd H2 D (.lst [])) s3 := by
  rw [← hs3]
  refine I2.laid (t' := s2.toks) (fun b o e => Heap.get?_push_of_some _ e) (Nat.le_of_eq hD) ⟨Nat.zero_le _, [], 0, .nil, ?_⟩
  rw [← hD]
  exact Heap.get?_push_size _ rfl
 have h3 : s3.heap = s2.heap.push { cls := .type "list", data := .seq ([] : List Value).toArray } := by rw [← hs3]
 have sz : ∀ b ∈ fp, b < s2.heap.objs.size := fun b hb => by
  obtain ⟨o, e, _⟩ := T.obj _ _ st2 b hb
  exact Heap.lt_size e
 have f3 : ∀ b ∈ fp, FpOk X pins (upd H2 D (.lst [])) b /\ b < s3.heap.objs.size := fun b hb => by
  have hlt := sz b hb
  refine ⟨⟨?_, (f2 b hb).2⟩, by rw [h3, Heap.size_push]; exact Nat.lt_succ_of_lt hlt⟩
  rw [upd_ne (by rw [← hD]; exact Nat.ne_of_lt hlt)]
  exact (f2 b hb).1
 have st3 : tn 0 s3.heap := T.keep _ _ _ st2 fun b _ o e => by rw [h3]; exact Heap.get?_push_of_some _ e
 have I4 := block_start I3 ok hN f3
 have pg := hg s3 (upd H2 D (.lst [])) s3.heap.objs.size (cellsFrom (s3.heap.objs.size + 1) scope.names (cloFrom X.env.cells scope.names [])) fp
 have pt := ht s3 (upd H2 D (.lst [])) s3.heap.objs.size (cellsFrom (s3.heap.objs.size + 1) scope.names (cloFrom X.env.cells scope.names [])) fp
 have pe := he s3 (upd H2 D (.lst [])) s3.heap.objs.size (cellsFrom (s3.heap.objs.size + 1) scope.names (cloFrom X.env.cells scope.names [])) fp
 show codeAny _ _ (.compStart (.ListComp elt [⟨tg, iter, ifs, 0⟩] scope pos) 0 (.ref it) (.ref D) (compEnvC scope (cellsFrom (s3.heap.objs.size + 1) scope.names (cloFrom X.env.cells scope.names [])) s3.heap.objs.size X.env)) (compPost (model X.prog X.w) X.A X.xe use Qf (.ref D) s3.heap.objs.size) { s3 with heap := pushCells (s3.heap.push { cls := .type "dict", data := .dict #[] }) scope.names }
 have nfp : ∀ b ∈ fp, (upd H2 D (.lst [])) b = none := fun b hb => (f3 b hb).1.1
 generalize hce : compEnvC scope (cellsFrom (s3.heap.objs.size + 1) scope.names (cloFrom X.env.cells scope.names [])) s3.heap.objs.size X.env = ce at I4 pg pt pe ⊢
 have cL : ce.locals = s3.heap.objs.size := by subst hce; rfl
 generalize hH3 : upd H2 D (.lst []) = H3 at I3 I4 pg pt pe w0 nfp f3
 generalize hs4 : ({ s3 with heap := pushCells (s3.heap.push { cls := .type "dict", data := .dict #[] }) scope.names } : Shared) = s4 at I4 ⊢
 have st4 : tn 0 s4.heap := T.keep _ _ _ st3 fun b _ o e => by rw [← hs4]; exact pushCells_keeps _ _ _ _ (Heap.get?_push_of_some _ e)
 have stat : ∀ {σ' : St} {H' : Hp} {s' : Shared}, Inv (X.blk s3 H3 scope ce fp) [] σ' H' s' -> (∀ b ∈ fp, H' b = none) -> ∀ b ∈ fp, FpOk (X.blk s3 H3 scope ce fp) [] H' b := fun {σ' H' s'} I' hn b hb =>
  ⟨hn b hb, (I'.ok.exf b hb).1, I'.ok.exfs b hb, .inl hb, fun x c e => (I'.ok.exf b hb).2 x c e, fun p hp => absurd (show p ∈ ([] : List (Addr × Obj)) ++ [] from hp) (by simp)⟩
 have loop : codeAny (model X.prog X.w) X.A (.compLoop (.ListComp elt [⟨tg, iter, ifs, 0⟩] scope pos) 0 (.ref it) (.ref D) ce) (compPost (model X.prog X.w) X.A X.xe use Qf (.ref D) s3.heap.objs.size) s4 := by
  refine compLoop_any (fun n s' => ∃ i H', Inv (X.blk s3 H3 scope ce fp) [] (wipe σ (own.map (·.2))) H' s' /\ tn i s'.heap /\ (∀ b ∈ fp, H' b = none) /\ W i n H') ?_ m0 ⟨0, H3, I4, st4, nfp, w0⟩
  rintro n s5 ⟨i, H5, I5, st5, n5, w5⟩
  rcases turn i n H5 w5 with ⟨stop, qq⟩ | ⟨go, Nx, hNx, step⟩
  ·have td := T.done (X.blk s3 H3 scope ce fp) rfl rfl rfl hc i [] s5 _ H5 (fun _ _ => False) I5 (stat I5 n5) st5 stop
   refine thnF td fun r s6 ⟨hr, I6⟩ => ?_
   subst hr
   -- back in the def's context
   have I7 : Inv X pins σ H5 s6 := I3.call' (ch := fp) I6.os I6.base I6.hok I6.bare fun b hb => ⟨(f3 b hb).1.2.2.2.1, (f3 b hb).1.2.1, (f3 b hb).1.2.2.2.2.1, (f3 b hb).1.2.2.2.2.2⟩
   have nC : H5 s3.heap.objs.size = none := by
    have z : H5 ce.locals = none := I6.free
    rw [cL] at z
    exact z
   obtain ⟨m, hn, _⟩ := I6.loc
   have hn : s6.heap.Ns ce.locals m := hn
   rw [cL] at hn
   exact hRR D s3.heap.objs.size s6 m H5 I7 qq hn (I3.fpOk (Nat.le_refl _) nC)
  ·have ti := T.item (X.blk s3 H3 scope ce fp) rfl rfl rfl hc i [] s5 _ H5 (fun _ _ => False) I5 (stat I5 n5) st5 go
   refine thnF ti fun r s6 ⟨u, hr, h6⟩ => ?_
   subst hr
   refine thnF h6 fun _ s7 ⟨x, H7, I7, r7, y7, st7, n7⟩ => ?_
   have I7' := I7.pinned (stat I7 n7) (T.obj _ _ st7)
   refine thnF (pg _ s7 _ H7 x u _ I7' r7 (step x H7 y7)) fun _ s8 ⟨σ8, H8, I8, hw8, q8⟩ => ?_
   refine thnF (pt _ s8 σ8 H8 _ I8 q8) fun b s9 ⟨H9, I9, q9⟩ => ?_
   -- the turn's end
   have fin : ∀ {s' : Shared} {H' : Hp}, Inv (X.blk s3 H3 scope ce fp) ([] ++ pinsAt fp s7.heap) σ8 H' s' -> Nx H' -> ∃ m, m < n /\ ∃ i H', Inv (X.blk s3 H3 scope ce fp) [] (wipe σ (own.map (·.2))) H' s' /\ tn i s'.heap /\ (∀ b ∈ fp, H' b = none) /\ W i m H' := fun {s' H'} I' nx => by
    obtain ⟨m', hm, w'⟩ := hNx H' nx
    have pin' : ∀ b ∈ fp, ∀ o, s7.heap.get? b = some o -> s'.heap.get? b = some o /\ H' b = none := fun b hb o e =>
     let z := I'.pin (b, o) (List.mem_append_right _ (List.mem_append_right _ (mem_pinsAt hb e)))
     ⟨z.1, z.2.1⟩
    have hl : (wipe σ (own.map (·.2))).length = σ8.length := by rw [← hw8, wipe_length]
    refine ⟨m', hm, i + 1, H', (I'.unpinned (pins := [])).weak hl (fun j v e => ?_), T.keep _ _ _ st7 fun b hb o e => (pin' b hb o e).1, fun b hb => ?_, w'⟩
    ·rw [← hw8] at e
     exact (wipe_some e).1
    ·obtain ⟨o, e, _⟩ := T.obj _ _ st7 b hb
     exact (pin' b hb o e).2
   cases b with
   | false =>
    simp only [Bool.false_eq_true, if_false] at q9 ⊢
    exact fin I9 q9
   | true =>
    simp only [if_true] at q9 ⊢
    refine thnF (pe _ s9 σ8 H9 _ I9 q9) fun z s10 ⟨yv, H10, I10, r10, acc, hD10, hz10, nx⟩ => ?_
    exact app_ok (X := X.blk s3 H3 scope ce fp) I10 hD10 hz10 r10 fun s11 I11 => fin I11 nx
 exact codeAny_compStart_list loop (T.self X.A 0 _ _ _ st4 loop)
theorem pe_lc {elt tg iter:Expr} {ifs:List Expr} {scope:Scope} {own:List (Str×Nat)} {pos:Pos} {wi:TI} {g:TG} {tt:TT} {te:TE} (hc:X.calm=true) (hN:X.N.Nodup) (hi:PI X tg iter wi) (ok:BlkOk X.N X.env.scope scope own)
  (hg:∀(s:Shared) (H:Hp) (C:Addr) (cl:List (Str×Addr)) (fp:List Addr),PG (X.blk s H scope (compEnvC scope cl C X.env) fp) tg g) (ht:∀(s:Shared) (H:Hp) (C:Addr) (cl:List (Str×Addr)) (fp:List Addr),PTs (X.blk s H scope (compEnvC scope cl C X.env) fp) ifs tt)
  (he:∀(s:Shared) (H:Hp) (C:Addr) (cl:List (Str×Addr)) (fp:List Addr),PE (X.blk s H scope (compEnvC scope cl C X.env) fp) elt te) (hs:∀x,foldedSetIterable iter X.env x=pure x:=by intro _;rfl):
  PE X (.ListComp elt [⟨tg,iter,ifs,0⟩] scope pos) (tLc wi g tt te (own.map (·.2))):=by
 intro pins s σ H Q I h
 rw [eval_ListComp]
 refine lc_core hc hN I hi ok hg ht he hs h fun D C s' m H' I' q hn f=>⟨m,hn,fun h'' sb=>?_⟩
 obtain ⟨f0,f1,f2,f3,f4,f5⟩:=f
 exact ⟨.ref D,H',I'.turned (t':=s'.toks) (fun b o hb e=>(sb.2 b hb).trans e) f0 f1 f3 f4 f5,rfl,q⟩
theorem ps_setLc {i:Nat} {y:Str} {py:Pos} {elt tg iter:Expr} {ifs:List Expr} {scope:Scope} {own:List (Str×Nat)} {pos spos:Pos} {wi:TI} {g:TG} {tt:TT} {te:TE} (hc:X.calm=true) (hN:X.N.Nodup) (hy:X.N[i]? =some y) (hyl:X.env.scope.names.lookup y=some .local)
  (hsw:swapsWith (.ListComp elt [⟨tg,iter,ifs,0⟩] scope pos) (some (.Name y py)) spos.line X.env=pure true) (hi:PI X tg iter wi) (ok:BlkOk X.N X.env.scope scope own)
  (hg:∀(s:Shared) (H:Hp) (C:Addr) (cl:List (Str×Addr)) (fp:List Addr),PG (X.blk s H scope (compEnvC scope cl C X.env) fp) tg g) (ht:∀(s:Shared) (H:Hp) (C:Addr) (cl:List (Str×Addr)) (fp:List Addr),PTs (X.blk s H scope (compEnvC scope cl C X.env) fp) ifs tt)
  (he:∀(s:Shared) (H:Hp) (C:Addr) (cl:List (Str×Addr)) (fp:List Addr),PE (X.blk s H scope (compEnvC scope cl C X.env) fp) elt te) (hs:∀x,foldedSetIterable iter X.env x=pure x:=by intro _;rfl):
  PS X (.Assign [.Name y py] (.ListComp elt [⟨tg,iter,ifs,0⟩] scope pos) spos) (tAsg (tLc wi g tt te (own.map (·.2))) (gName i)):=by
 intro pins s σ H D I h
 rw [exec_Assign_Name_used _ _ _ _ hsw]
 refine wpAny_bind (wpAny_standAt (wpAny_bind ?_))
 show wpAny _ X.A (do let _ ←comprehension (.ListComp elt [⟨tg,iter,ifs,0⟩] scope pos) scope X.env (firstIterPos [⟨tg,iter,ifs,0⟩] pos) (newList []) false (eval iter X.env) (some (assign (.Name y py) X.env))) _ _ s
 have h:tLc wi g tt te (own.map (·.2)) σ H (fun x H1=>gName i x σ H1 D.nx):=h
 refine wpAny_bind (thn (lc_core (Qf:=fun _ s'=>SP X pins D .next s') hc hN I hi ok hg ht he hs h fun L C s' m H' I' q hn f=>?_) fun _ s' hq=>wpAny_pure (wpAny_pure hq))
 show wpAny _ _ (assign (.Name y py) X.env (.ref L)) _ _ _
 refine wpAny_assign_Name (store_ok2 (v:=V.ref L) I' hN hy (.inl hyl) rfl (fun s2 I2 ⟨a,sb,ha⟩=>?_) (.inr hyl))
 obtain ⟨f0,f1,f2,f3,f4,f5⟩:=f
 have haC:C≠a:=by
  rcases ha with z|z
  ·rw [z];exact f1
  ·exact fun e=>f4 y a z e.symm
 refine ⟨m,hn.sameBut sb haC,fun h3 sb3=>?_⟩
 exact ⟨_,H',I2.turned (t':=s2.toks) (fun b o hb e=>(sb3.2 b hb).trans e) f0 f1 f3 f4 f5,q⟩
end
def blkC (N : List Str) (sc scope : Scope) (own : List (Str × Nat)) : Bool :=
 (match scope.kind with | .function => true | _ => false) && (scope.names.all fun y => decide (scope.names.lookup y.1 = some y.2)) && (own.all fun p => decide (N[p.2]? = some p.1)) &&
  (scope.names.all fun y => match y.2 with
   | .free => (match sc.names.lookup y.1 with | some .cell => true | some .free => true | _ => false)
   | .local => decide (y.1 ∈ own.map (·.1)) || decide (y.1 ∉ N)
   | .cell => decide (y.1 ∈ own.map (·.1)) || decide (y.1 ∉ N)
   | _ => true)
theorem blkOk_by {N:List Str} {sc scope:Scope} {own:List (Str×Nat)} (h:blkC N sc scope own=true):BlkOk N sc scope own:=by
 unfold blkC at h
 simp only [Bool.and_eq_true,List.all_eq_true,decide_eq_true_eq] at h
 obtain ⟨⟨⟨h1,h2⟩,h3⟩,h4⟩:=h
 refine ⟨?_,h2,h3,fun y hy e=>?_,fun y hy e=>?_⟩
 ·split at h1
  ·assumption
  ·cases h1
 ·have q:=h4 y hy
  simp only [e] at q
  split at q<;>first|exact .inl (by assumption)|exact .inr (by assumption)|cases q
 ·have q:=h4 y hy
  rcases e with e|e<;>(simp only [e,Bool.or_eq_true,decide_eq_true_eq] at q;exact q)
end L2
namespace L2
open PySem PySem.Spec PyProof.Rows
section
variable {κ:Type} [DecidableEq κ]
def valV (kvs:List (κ×V)) (k:κ):Option V:=(kvs.find? fun kv=>decide (kv.1=k)).map (·.2)
def putK (kvs:List (κ×V)) (k:κ) (v:V):List (κ×V):=
 if (kvs.any fun kv=>decide (kv.1=k))=true then kvs.map (fun kv=>if kv.1=k then (kv.1,v) else kv) else kvs++ [(k,v)]
theorem valV_pos {p:κ×V} {r:List (κ×V)} {k:κ} (e:p.1=k):valV (p::r) k=some p.2:=by simp [valV,List.find?_cons,e]
theorem valV_neg {p:κ×V} {r:List (κ×V)} {k:κ} (e:¬p.1=k):valV (p::r) k=valV r k:=by simp [valV,List.find?_cons,e]
theorem valV_any (k:κ):∀kvs:List (κ×V),(kvs.any fun kv=>decide (kv.1=k))=(valV kvs k).isSome
 | []=>rfl
 |p::r=>by
  rw [List.any_cons]
  by_cases e:p.1=k
  ·simp only [valV_pos e,decide_eq_true e,Bool.true_or,Option.isSome_some]
  ·rw [valV_neg e,decide_eq_false e,Bool.false_or];exact valV_any k r
theorem length_putK (kvs:List (κ×V)) (k:κ) (v:V):(putK kvs k v).length<=kvs.length+1:=by
 unfold putK
 split
 ·rw [List.length_map];omega
 ·rw [List.length_append,List.length_cons,List.length_nil];omega
theorem putK_new {kvs:List (κ×V)} {k:κ} (v:V) (h:valV kvs k=none):putK kvs k v=kvs++ [(k,v)]:=by
 unfold putK
 rw [valV_any,h]
 exact if_neg (by decide)
theorem RelO.isSome_eq {o:Option V} {u:Option Value} (r:RelO o u):o.isSome=u.isSome:=by
 cases o with
 |none=>cases u with
  |none=>rfl
  |some _=>exact (show False from r).elim
 |some _=>cases u with
  |none=>exact (show False from r).elim
  |some _=>rfl
theorem RelO.getD {o:Option V} {u:Option Value} {d:V} {d':Value} (r:RelO o u) (rd:RelV d d'):RelV (o.getD d) (u.getD d'):=by
 cases o with
 |none=>cases u with
  |none=>exact rd
  |some _=>exact (show False from r).elim
 |some _=>cases u with
  |none=>exact (show False from r).elim
  |some _=>exact r
theorem KV.val {kvs:List (κ×V)} {vs:List (κ×Value)} (r:KV kvs vs) (k:κ):RelO (valV kvs k) (valueAt vs k):=by
 unfold KV at r
 induction r with
 |nil=>exact True.intro
 | @cons p q ps qs h t ih=>
  obtain ⟨h1,h2⟩:=h
  by_cases e:p.1=k
  ·have e':q.1=k:=h1.symm.trans e
   have b:valueAt (q::qs) k=some q.2:=by simp [valueAt,List.find?_cons,e']
   rw [valV_pos e,b];exact h2
  ·have e':¬q.1=k:=fun z=>e (h1.trans z)
   have b:valueAt (q::qs) k=valueAt qs k:=by simp [valueAt,List.find?_cons,e']
   rw [valV_neg e,b];exact ih
theorem KV.any {kvs:List (κ×V)} {vs:List (κ×Value)} (r:KV kvs vs) (k:κ):(kvs.any fun kv=>decide (kv.1=k))=vs.any fun kv=>decide (kv.1=k):=by
 unfold KV at r
 induction r with
 |nil=>rfl
 |cons h t ih=>rw [List.any_cons,List.any_cons,ih,h.1]
theorem KV.repl {kvs:List (κ×V)} {vs:List (κ×Value)} (r:KV kvs vs) (k:κ) {y:V} {u:Value} (ry:RelV y u):
  KV (kvs.map fun kv=>if kv.1=k then (kv.1,y) else kv) (vs.map fun kv=>if kv.1=k then (kv.1,u) else kv):=by
 unfold KV at r⊢
 induction r with
 |nil=>exact .nil
 | @cons p q ps qs h t ih=>
  rw [List.map_cons,List.map_cons]
  refine .cons ?_ ih
  obtain ⟨h1,h2⟩:=h
  by_cases e:p.1=k
  ·rw [if_pos e,if_pos (h1.symm.trans e)];exact ⟨h1,ry⟩
  ·rw [if_neg e,if_neg (fun z=>e (h1.trans z))];exact ⟨h1,h2⟩
theorem KV.put {kvs:List (κ×V)} {vs:List (κ×Value)} (r:KV kvs vs) (k:κ) {y:V} {u:Value} (ry:RelV y u):KV (putK kvs k y) (stored vs k u):=by
 unfold putK stored
 rw [r.any k]
 by_cases e:(vs.any fun kv=>decide (kv.1=k))=true
 ·rw [if_pos e,if_pos e];exact r.repl k ry
 ·rw [if_neg e,if_neg e];exact Paired.snoc r ⟨rfl,ry⟩
theorem KV.length {kvs:List (κ×V)} {vs:List (κ×Value)} (r:KV kvs vs):kvs.length=vs.length:=Paired.length r
end
theorem kV_is {P:Program} {w:World} {k:Key} {u:Value} (r:RelV (kV k) u):(mixKind P w).is k u=true:=by
 cases k with
 |inl i=>obtain ⟨t,e⟩:=(show ∃t,u=Value.int i t from r);subst e;exact mixKind_int P w i t
 |inr x=>obtain ⟨t,e⟩:=(show ∃t,u=Value.str x t from r);subst e;exact mixKind_str P w x t
theorem items_are {P:Program} {w:World}:∀{ks:List Key} {us:List Value},Vals (ks.map kV) us->ItemsAre (mixKind P w) ks us
 | [],_,r=>by rw [List.map_nil] at r;cases r;exact .nil
 |k::ks,_,r=>by
  rw [List.map_cons] at r
  cases r with
  |cons h t=>exact .cons (kV_is h) (items_are t)
abbrev KT (H:Hp):List (List Key×V)->List (List Key×Addr×Value)->Prop:=Paired fun p q=>p.1=q.1/\H q.2.1=some (.tup (p.1.map kV))/\RelV p.2 q.2.2
theorem KT.val {H:Hp} {kvs:List (List Key×V)} {xs:List (List Key×Addr×Value)} (r:KT H kvs xs) (k:List Key):RelO (valV kvs k) ((atKey xs k).map (·.2)):=by
 induction r with
 |nil=>exact True.intro
 | @cons p q ps qs h t ih=>
  obtain ⟨h1,_,h2⟩:=h
  by_cases e:p.1=k
  ·have e':q.1=k:=h1.symm.trans e
   have b:atKey (q::qs) k=some q.2:=by simp [atKey,List.find?_cons,e']
   rw [valV_pos e,b];exact h2
  ·have e':¬q.1=k:=fun z=>e (h1.trans z)
   have b:atKey (q::qs) k=atKey qs k:=by simp [atKey,List.find?_cons,e']
   rw [valV_neg e,b];exact ih
theorem KT.repl {H:Hp} {kvs:List (List Key×V)} {xs:List (List Key×Addr×Value)} (r:KT H kvs xs) (k:List Key) {y:V} {u:Value} (ry:RelV y u):
  KT H (kvs.map fun kv=>if kv.1=k then (kv.1,y) else kv) (xs.map (putAt k u)):=by
 induction r with
 |nil=>exact .nil
 | @cons p q ps qs h t ih=>
  rw [List.map_cons,List.map_cons]
  refine .cons ?_ ih
  obtain ⟨h1,h2,h3⟩:=h
  unfold putAt
  by_cases e:p.1=k
  ·rw [if_pos e,if_pos (h1.symm.trans e)];exact ⟨h1,h2,ry⟩
  ·rw [if_neg e,if_neg (fun z=>e (h1.trans z))];exact ⟨h1,h2,h3⟩
theorem KT.put {H:Hp} {kvs:List (List Key×V)} {xs:List (List Key×Addr×Value)} (r:KT H kvs xs) (k:List Key) {b:Addr} {y:V} {u:Value} (hb:H b=some (.tup (k.map kV))) (ry:RelV y u):
  KT H (putK kvs k y) (storedH xs k b u):=by
 have e:(kvs.any fun kv=>decide (kv.1=k))=(atKey xs k).isSome:=by
  rw [valV_any,(r.val k).isSome_eq,Option.isSome_map]
 unfold putK storedH
 rw [e]
 by_cases q:(atKey xs k).isSome=true
 ·rw [if_pos q,if_pos q];exact r.repl k ry
 ·rw [if_neg q,if_neg q];exact Paired.snoc r ⟨rfl,hb,ry⟩
theorem KT.keeps {H H':Hp} {kvs:List (List Key×V)} {xs:List (List Key×Addr×Value)} (r:KT H kvs xs) (ht:∀b ys,H b=some (.tup ys)->H' b=some (.tup ys)):KT H' kvs xs:=
 Paired.mapP r fun _ _ z=>⟨z.1,ht _ _ z.2.1,z.2.2⟩
section
variable {P:Program} {w:World} {H:Hp} {h:Heap} {a:Addr}
theorem rd_of {u:HO} (ok:HOk P w H h) (e:Rd H a u):ObjOk P w H h a u:=e.ok ok
theorem dk_rd {kvs:List (Key×V)} (ok:HOk P w H h) (e:Rd H a (.dK kvs)):kvs.length<=sizeLine/\(a==sysModules)=false/\∃vs,KV kvs vs/\h.DictOf (mixKind P w) a vs:=
 show ObjOk P w H h a (.dK kvs) from rd_of ok e
theorem dk_of {kvs:List (Key×V)} (ok:HOk P w H h) (e:H a=some (.dK kvs)):kvs.length<=sizeLine/\(a==sysModules)=false/\∃vs,KV kvs vs/\h.DictOf (mixKind P w) a vs:=dk_rd ok (.inl e)
theorem key_of {ks:List Key} (ok:HOk P w H h) (e:H a=some (.tup (ks.map kV))):(tupleKind (mixKind P w)).is h ks a:=by
 obtain ⟨_,its,r,o,h1,h2,n,h3⟩:=(show ObjOk P w H h a (.tup (ks.map kV)) from ok a _ e)
 exact ⟨o,its.toArray,n,h1,h2,h3,by simpa using items_are r⟩
theorem dt_rd {kvs:List (List Key×V)} (ok:HOk P w H h) (e:Rd H a (.dT kvs)):kvs.length<=sizeLine/\(a==sysModules)=false/\
  ∃xs,KT H kvs xs/\h.DictOfH (tupleKind (mixKind P w)) a xs:=by
 obtain ⟨z,y,xs,r,o,es,ep,h1,h2,h3,h4,h5⟩:=(show ObjOk P w H h a (.dT kvs) from rd_of ok e)
 refine ⟨z,y,xs,r,o,es,ep,h1,h2,h3,h4,fun x hx=>?_,h5⟩
 have all:∀{l:List (List Key×V)} {m:List (List Key×Addr×Value)},KT H l m->∀x∈m,(tupleKind (mixKind P w)).is h x.1 x.2.1:=by
  intro l m q
  induction q with
  |nil=>intro x hx;exact nomatch hx
  | @cons p q ps qs hq t ih=>
   intro x hx
   rcases List.mem_cons.mp hx with e|hx
   ·subst e
    exact key_of ok (by rw [←hq.1];exact hq.2.1)
   ·exact ih x hx
 exact all r x hx
theorem dt_of {kvs:List (List Key×V)} (ok:HOk P w H h) (e:H a=some (.dT kvs)):kvs.length<=sizeLine/\(a==sysModules)=false/\
  ∃xs,KT H kvs xs/\h.DictOfH (tupleKind (mixKind P w)) a xs:=dt_rd ok (.inl e)
end
def DGet (H:Hp) (a:Addr) (y:V) (r:Option V):Prop:=
 (∃kvs k,Rd H a (.dK kvs)/\y=kV k/\r=valV kvs k)∨∃kvs k b,Rd H a (.dT kvs)/\y= .ref b/\H b=some (.tup (k.map kV))/\r=valV kvs k
def DPut (H:Hp) (a:Addr) (y v:V) (H':Hp):Prop:=
 (∃kvs k,H a=some (.dK kvs)/\y=kV k/\kvs.length < sizeLine/\H'=upd H a (.dK (putK kvs k v)))∨
 ∃kvs k b,H a=some (.dT kvs)/\y= .ref b/\H b=some (.tup (k.map kV))/\kvs.length < sizeLine/\H'=upd H a (.dT (putK kvs k v))
theorem DGet.t {H:Hp} {a b:Addr} {kvs:List (List Key×V)} {k:List Key} (e:H a=some (.dT kvs)) (eb:H b=some (.tup (k.map kV))):DGet H a (.ref b) (valV kvs k):= .inr ⟨kvs,k,b,.inl e,rfl,eb,rfl⟩
theorem DPut.t {H:Hp} {a b:Addr} {kvs:List (List Key×V)} {k:List Key} {v:V} (e:H a=some (.dT kvs)) (eb:H b=some (.tup (k.map kV))) (hl:kvs.length < sizeLine):
  DPut H a (.ref b) v (upd H a (.dT (putK kvs k v))):= .inr ⟨kvs,k,b,e,rfl,eb,hl,rfl⟩
section
variable {X:Cx} {pins:List (Addr×Obj)} {σ:St} {H:Hp} {s:Shared} {a:Addr} {y v:V} {u r:Value} {o:Option V} {A:Around} {E:Value->Shared->Prop}
theorem Inv.big (I:Inv X pins σ H s):sysModules < s.heap.objs.size:=by
 have h:mainGlobals < s.heap.objs.size:=(I.mod.glob.keeps I.bk).lt
 exact Nat.lt_trans (by decide) h
theorem d_getItem {Q:Value->Shared->Prop} (hu:A.units+1 < cLine) (I:Inv X pins σ H s) (g:DGet H a y (some v)) (ry:RelV y u) (h:∀w' s',Inv X pins σ H s'->RelV v w'->Q w' s'):
  wpAny (model X.prog X.w) A (getItem (.ref a) u) Q E s:=by
 rcases g with ⟨kvs,k,e,ey,l⟩|⟨kvs,k,b,e,ey,eb,l⟩
 ·subst ey
  obtain ⟨z,hd,vs,rel,dd⟩:=dk_rd I.hok e
  obtain ⟨w',hw,rw'⟩:=RelO.some_of (v:=v) (o:=valueAt vs k) (by rw [l];exact rel.val k)
  exact wpAny_getItem_of (kV_is ry) dd.mapOf hw (h w' _ (I.tok _) rw')
 ·subst ey
  cases (show u=Value.ref b from ry)
  obtain ⟨z,hd,xs,rel,dd⟩:=dt_rd I.hok e
  obtain ⟨w',hw,rw'⟩:=RelO.some_of (v:=v) (o:=(atKey xs k).map (·.2)) (by rw [l];exact rel.val k)
  obtain ⟨p,hp,hp2⟩:=Option.map_eq_some_iff.mp hw
  refine wpAny_getItem_heap (tupleKind_room_in1 hu) (key_of I.hok eb) dd hp ?_
  rw [hp2]
  exact h w' _ (I.tok _) rw'
theorem d_in {Q:Value->Shared->Prop} (hu:A.units+1 < cLine) (I:Inv X pins σ H s) (g:DGet H a y o) (ry:RelV y u) (h:∀s',Inv X pins σ H s'->Q (.bool o.isSome) s'):
  wpAny (model X.prog X.w) A (compareOp .In u (.ref a)) Q E s:=by
 rcases g with ⟨kvs,k,e,ey,l⟩|⟨kvs,k,b,e,ey,eb,l⟩
 ·subst ey
  obtain ⟨z,hd,vs,rel,dd⟩:=dk_rd I.hok e
  refine wpAny_in_of (kV_is ry) hd dd.mapOf ?_
  rw [←(rel.val k).isSome_eq,←l]
  exact h _ (I.tok _)
 ·subst ey
  cases (show u=Value.ref b from ry)
  obtain ⟨z,hd,xs,rel,dd⟩:=dt_rd I.hok e
  refine wpAny_in_heap (tupleKind_room_in1 hu) (key_of I.hok eb) hd dd ?_
  have q:=(rel.val k).isSome_eq
  rw [Option.isSome_map] at q
  rw [←q,←l]
  exact h _ (I.tok _)
theorem d_notIn {Q:Value->Shared->Prop} (hu:A.units+1 < cLine) (I:Inv X pins σ H s) (g:DGet H a y o) (ry:RelV y u) (h:∀s',Inv X pins σ H s'->Q (.bool (!o.isSome)) s'):
  wpAny (model X.prog X.w) A (compareOp .NotIn u (.ref a)) Q E s:=by
 rcases g with ⟨kvs,k,e,ey,l⟩|⟨kvs,k,b,e,ey,eb,l⟩
 ·subst ey
  obtain ⟨z,hd,vs,rel,dd⟩:=dk_rd I.hok e
  refine wpAny_notIn_of (kV_is ry) hd dd.mapOf ?_
  rw [←(rel.val k).isSome_eq,←l]
  exact h _ (I.tok _)
 ·subst ey
  cases (show u=Value.ref b from ry)
  obtain ⟨z,hd,xs,rel,dd⟩:=dt_rd I.hok e
  refine wpAny_notIn_heap (tupleKind_room_in1 hu) (key_of I.hok eb) hd dd ?_
  have q:=(rel.val k).isSome_eq
  rw [Option.isSome_map] at q
  rw [←q,←l]
  exact h _ (I.tok _)
theorem d_write {h':Heap} {t':Nat} {ob:HO} (I:Inv X pins σ H s) (mu:Mut (H a)) (hs:Heap.SameBut a s.heap h') (he:∃q,h'.get? a=some q) (new:ObjOk X.prog X.w (upd H a ob) h' a ob):
  Inv X pins σ (upd H a ob) {s with heap:=h',toks:=t'}:=
 I.write (x:=a) (e:=a) mu (.inl rfl) (fun b q hb z=>(hs.2 b hb).trans z) he new
theorem dk_new {P:Program} {w:World} {H':Hp} {h':Heap} {kvs:List (Key×V)} {vs:List (Key×Value)} (z:kvs.length<=sizeLine) (hd:(a==sysModules)=false) (rel:KV kvs vs) (dd:h'.DictOf (mixKind P w) a vs):
  ObjOk P w H' h' a (.dK kvs):=⟨z,hd,vs,rel,dd⟩
theorem d_setItem {H':Hp} {Q:Unit->Shared->Prop} (hu:A.units+1 < cLine) (I:Inv X pins σ H s) (g:DPut H a y v H') (ry:RelV y u) (rv:RelV v r) (h:∀s',Inv X pins σ H' s'->Q () s'):
  wpAny (model X.prog X.w) A (setItem (.ref a) u r) Q E s:=by
 rcases g with ⟨kvs,k,e,ey,l,eH⟩|⟨kvs,k,b,e,ey,eb,l,eH⟩
 ·subst ey eH
  obtain ⟨z,hd,vs,rel,dd⟩:=dk_of I.hok e
  have hz:vs.length<=sizeLine:=by rw [←rel.length];exact z
  have hl:(putK kvs k v).length<=sizeLine:=by have:=length_putK kvs k v;omega
  refine wpAny_setItem_pairs (hsz:=hz) (kV_is ry) dd fun h' dd' hs=>h _ ?_
  have he:∃q,h'.get? a=some q:=let ⟨q,_,_,hq,_⟩:=dd';⟨q,hq⟩
  exact d_write I (by rw [e];exact True.intro) hs he (dk_new hl hd (rel.put k rv) dd')
 ·subst ey eH
  cases (show u=Value.ref b from ry)
  obtain ⟨z,hd,xs,rel,dd⟩:=dt_of I.hok e
  have hz:xs.length<=sizeLine:=by rw [←Paired.length rel];exact z
  have hl:(putK kvs k v).length<=sizeLine:=by have:=length_putK kvs k v;omega
  refine wpAny_setItem_heap (hsz:=hz) (tupleKind_room_in1 hu) (key_of I.hok eb) dd fun h' dd' hs=>h _ ?_
  obtain ⟨q,es,ep,hq,h2,h3,h4,_,h5⟩:=dd'
  refine d_write I (by rw [e];exact True.intro) hs ⟨q,hq⟩ ⟨hl,hd,_,(rel.put k eb rv).keeps fun c ys ec=>?_,q,es,ep,hq,h2,h3,h4,h5⟩
  rw [upd_ne (ne_of ec e (fun z=>nomatch z))]
  exact ec
end
def NoSl (i:Expr):Prop:=∀ov iv,subscripted i false ov iv=operate [ov,iv] (getItem ov iv)
theorem subD_of {prog:Program} {w:World} {A:Around} {E:Value->Shared->Prop} {s:Shared} {env:Env} {value slice:Expr} {pos:Pos} {T id:String} {Q:Value->Shared->Prop}
  (hl:typeLookup (.type T) "__getitem__"=pure (some (.builtin id))) (hs:NoSl slice)
  (h:wpAny (model prog w) A (eval value env) (fun o s₁=>wpAny (model prog w) A (eval slice env) (fun i s₂=>s₂.TypeIs o T/\wpAny (model prog w) A (getItem o i) Q E s₂) E s₁) E s):
  wpAny (model prog w) A (eval (.Subscript value slice pos) env) Q E s:=by
 refine Subscript_ (wpAny_mono h (fun o s₁ h₁=>wpAny_mono h₁ (fun i s₂ h₂=>?_) fun _ _ x=>x) fun _ _ x=>x)
 obtain ⟨hT,h₂⟩:=h₂
 unfold subscriptTail
 refine wpAny_bind ?_
 rw [getitemInPython_of_ne hT.not_modules]
 refine wpAny_bind (wpAny_specialOf hT hl ?_)
 have fin:wpAny (model prog w) A (subscripted slice false o i) (fun r s₃=>wpAny (model prog w) A (letTemporaryGo value o r >>= fun _=>pure r) Q E s₃) E s₂:=by
  rw [hs o i]
  exact wpAny_operating (wpAny_mono h₂ (fun r s₃ h₃=>wpAny_bind (wpAny_letTemporaryGo (wpAny_pure h₃))) fun _ _ x=>x)
 first
  |exact wpAny_pure (wpAny_bind fin)
  |exact wpAny_bind (wpAny_pure (wpAny_bind fin))
  |exact wpAny_bind fin
theorem dict_typeIs {X:Cx} {pins:List (Addr×Obj)} {σ:St} {H:Hp} {s:Shared} {a:Addr} {y:V} {o:Option V} (I:Inv X pins σ H s) (g:DGet H a y o):s.TypeIs (.ref a) "dict":=by
 rcases g with ⟨kvs,k,e,_,_⟩|⟨kvs,k,b,e,_,_,_⟩
 ·obtain ⟨_,_,vs,_,dd⟩:=dk_rd I.hok e
  exact dd.typeIs
 ·obtain ⟨_,_,xs,_,dd⟩:=dt_rd I.hok e
  exact dd.typeIs
def tDGet (td ty:TE):TE:=fun σ H Q=>td σ H fun x H1=>ty σ H1 fun y H2=>∃a v,x= .ref a/\DGet H2 a y (some v)/\Q v H2
def tDIn (ty td:TE):TE:=fun σ H Q=>ty σ H fun y H1=>td σ H1 fun x H2=>∃a o,x= .ref a/\DGet H2 a y o/\Q (.bl o.isSome) H2
def tDNotIn (ty td:TE):TE:=fun σ H Q=>ty σ H fun y H1=>td σ H1 fun x H2=>∃a o,x= .ref a/\DGet H2 a y o/\Q (.bl (!o.isSome)) H2
def sDPut (td ty tv:TE):TS:=fun D σ H=>tv σ H fun v H1=>td σ H1 fun x H2=>ty σ H2 fun y H3=>∃a H4,x= .ref a/\DPut H3 a y v H4/\D.nx σ H4
section
variable {X:Cx} {o i e value:Expr} {pos pos' tpos:Pos} {td ty tv:TE}
theorem pe_dget (hu:X.A.units+1 < cLine) (ho:PE X o td) (hi:PE X i ty) (hs:NoSl i):PE X (.Subscript o i pos) (tDGet td ty):=by
 intro pins s σ H Q I h
 refine subD_of PySem.F.slot_dict_getitem.lookup hs (thn (ho pins s σ H _ I h) fun u s1 ⟨x,H1,I1,rx,q1⟩=>thn (hi pins s1 σ H1 _ I1 q1) fun iv s2 ⟨y,H2,I2,ry,a,v,ex,g,q2⟩=>?_)
 subst ex
 obtain rfl:u=Value.ref a:=rx
 exact ⟨dict_typeIs I2 g,d_getItem hu I2 g ry fun w' s3 I3 rw'=>⟨v,H2,I3,rw',q2⟩⟩
theorem pc_din (hu:X.A.units+1 < cLine) (hi:PE X i ty) (ho:PE X o td):PC X .In i o (tDIn ty td):=by
 intro pins s σ H Q I h
 refine thn (hi pins s σ H _ I h) fun iv s1 ⟨y,H1,I1,ry,q1⟩=>thn (ho pins s1 σ H1 _ I1 q1) fun u s2 ⟨x,H2,I2,rx,a,ov,ex,g,q2⟩=>?_
 subst ex
 obtain rfl:u=Value.ref a:=rx
 exact d_in hu I2 g ry fun s3 I3=>⟨.bl ov.isSome,H2,I3,rfl,q2⟩
theorem pc_dnotin (hu:X.A.units+1 < cLine) (hi:PE X i ty) (ho:PE X o td):PC X .NotIn i o (tDNotIn ty td):=by
 intro pins s σ H Q I h
 refine thn (hi pins s σ H _ I h) fun iv s1 ⟨y,H1,I1,ry,q1⟩=>thn (ho pins s1 σ H1 _ I1 q1) fun u s2 ⟨x,H2,I2,rx,a,ov,ex,g,q2⟩=>?_
 subst ex
 obtain rfl:u=Value.ref a:=rx
 exact d_notIn hu I2 g ry fun s3 I3=>⟨.bl (!ov.isSome),H2,I3,rfl,q2⟩
theorem ps_dput (hu:X.A.units+1 < cLine) (ho:PE X o td) (hi:PE X i ty) (hv:PE X value tv) (hs:swapsWith value (some (.Subscript o i pos')) pos.line X.env=pure false):
  PS X (.Assign [.Subscript o i pos'] value pos) (sDPut td ty tv):=by
 intro pins s σ H D I h
 refine wpAny_Assign_Subscript (thn (hv pins s σ H _ I h) fun r s1 ⟨v,H1,I1,rv,q1⟩=>thn (ho pins s1 σ H1 _ I1 q1) fun u s2 ⟨x,H2,I2,rx,q2⟩=>thn (hi pins s2 σ H2 _ I2 q2) fun iv s3 ⟨y,H3,I3,ry,a,H4,ex,g,q3⟩=>?_) hs
 subst ex
 obtain rfl:u=Value.ref a:=rx
 exact d_setItem hu I3 g ry rv fun s4 I4=>⟨σ,H4,I4,q3⟩
end
theorem dt_empty {P:Program} {w:World} {H:Hp} (h:Heap) (hb:sysModules < h.objs.size):ObjOk P w H (h.push {cls:= .type "dict",data:= .dict #[]}) h.objs.size (.dT []):=
 ⟨Nat.zero_le _,beq_eq_false_iff_ne.mpr (Ne.symm (Nat.ne_of_lt hb)),[],.nil,_, #[],0,Heap.get?_push_size _ rfl,⟨rfl,rfl,rfl⟩,rfl,rfl,List.nodup_nil⟩
def tDNewT:TE:=fun _ H Q=>∀p,H p=none->Q (.ref p) (upd H p (.dT []))
section
variable {X:Cx} {pos:Pos}
theorem pe_dnewT:PE X (.Dict [] [] pos) tDNewT:=fun pins s σ H Q I h=>
 wpAny_Dict_empty ⟨.ref s.heap.objs.size,_,I.laid (a:=s.heap.objs.size) (o:= .dT []) (t':=s.toks) (fun _ _ q=>Heap.get?_push_of_some _ q) (Nat.le_refl _) (dt_empty s.heap I.big),rfl,h _ (I.hok.fresh (Nat.le_refl _))⟩
end
structure M1 (X:Cx) (o:Expr) (m:Str) (apos:Pos) (e:Expr) (cpos:Pos):Prop where
 base:attributeBase o m X.env (eval o X.env)=eval o X.env
 few:((backTo cpos (starEach [e] X.env)).all (fun x=> !x.1)&&(backToKw cpos (keywordEach [] X.env)).all (fun x=>x.1.isSome)
  &&decide (([e]:List Expr).length+([]:List Keyword).length+(if ([]:List Keyword).isEmpty then 0 else 1) < 30))=true
 line:(apos.endLine==cpos.line)=true
 trees:backTo cpos (starEach [e] X.env)= [(false,eval e X.env)]
structure M2 (X:Cx) (o:Expr) (m:Str) (apos:Pos) (e f:Expr) (cpos:Pos):Prop where
 base:attributeBase o m X.env (eval o X.env)=eval o X.env
 few:((backTo cpos (starEach [e,f] X.env)).all (fun x=> !x.1)&&(backToKw cpos (keywordEach [] X.env)).all (fun x=>x.1.isSome)
  &&decide (([e,f]:List Expr).length+([]:List Keyword).length+(if ([]:List Keyword).isEmpty then 0 else 1) < 30))=true
 line:(apos.endLine==cpos.line)=true
 trees:backTo cpos (starEach [e,f] X.env)= [(false,eval e X.env),(false,eval f X.env)]
def IsD (H:Hp) (a:Addr):Prop:=(∃kvs,Rd H a (.dK kvs))∨∃kvs,Rd H a (.dT kvs)
theorem isD_at {X:Cx} {pins:List (Addr×Obj)} {σ:St} {H:Hp} {s:Shared} {a:Addr} (I:Inv X pins σ H s) (d:IsD H a):
  s.TypeIs (.ref a) "dict"/\(∀b,Value.ref a= .ref b->∃ob,s.heap.get? b=some ob/\ob.dict=none)/\(a==sysModules)=false:=by
 rcases d with ⟨kvs,e⟩|⟨kvs,e⟩
 ·obtain ⟨_,hd,vs,_,dd⟩:=dk_rd I.hok e
  refine ⟨dd.typeIs,fun b q=>?_,hd⟩
  cases q
  obtain ⟨ob,_,_,h1,h2,_⟩:=dd
  exact ⟨ob,h1,h2.2.1⟩
 ·obtain ⟨_,hd,xs,_,dd⟩:=dt_rd I.hok e
  refine ⟨dd.typeIs,fun b q=>?_,hd⟩
  cases q
  obtain ⟨ob,_,_,h1,h2,_⟩:=dd
  exact ⟨ob,h1,h2.2.1⟩
section
variable {X:Cx} {pins:List (Addr×Obj)} {σ:St} {H:Hp} {s:Shared} {a:Addr} {y d:V} {u r:Value} {o:Option V} {A:Around} {E:Value->Shared->Prop}
theorem d_get1 {Q:Value->Shared->Prop} (hu:A.units+1 < cLine) (I:Inv X pins σ H s) (g:DGet H a y o) (ry:RelV y u) (h:∀w' s',Inv X pins σ H s'->RelV (o.getD .non) w'->Q w' s'):
  wpAny (model X.prog X.w) A (call (.builtin "dict.get") [.ref a,u]) Q E s:=by
 rcases g with ⟨kvs,k,e,ey,l⟩|⟨kvs,k,b,e,ey,eb,l⟩
 ·subst ey
  obtain ⟨z,hd,vs,rel,dd⟩:=dk_rd I.hok e
  refine call_meetsIn PySem.F.slot_dict_get dd.typeIs PySem.F.entry_dict_get (PySem.F.args_dict_get_2 _ _) (meets_dict_get (mixKind X.prog X.w) a (kV_is ry) hd) ⟨_,dd.mapOf,h _ _ (I.tok _) ?_⟩
  rw [l]
  exact (rel.val k).getD rfl
 ·subst ey
  cases (show u=Value.ref b from ry)
  obtain ⟨z,hd,xs,rel,dd⟩:=dt_rd I.hok e
  refine call_meetsIn PySem.F.slot_dict_get dd.typeIs PySem.F.entry_dict_get (PySem.F.args_dict_get_2 _ _) (meetsH_dict_get (tupleKind (mixKind X.prog X.w)) a b hd) ⟨tupleKind_room_in1 hu,k,xs,key_of I.hok eb,dd,h _ _ (I.tok _) ?_⟩
  rw [l]
  exact (rel.val k).getD rfl
end
def tDGet1 (td ty:TE):TE:=fun σ H Q=>td σ H fun x H1=>∃a,x= .ref a/\IsD H1 a/\ty σ H1 fun y H2=>∃o,DGet H2 a y o/\Q (o.getD .non) H2
section
variable {X:Cx} {o e f:Expr} {apos cpos:Pos} {td ty tx:TE}
theorem pe_dget1 (hu:X.A.units+1 < cLine) (ho:PE X o td) (he:PE X e ty) (m:M1 X o "get" apos e cpos):PE X (.Call (.Attribute o "get" apos) [e] [] cpos) (tDGet1 td ty):=by
 intro pins s σ H Q I h
 refine wpAny_Call_method m.base m.few m.line PySem.F.plainAttrs_dict PySem.F.slot_dict_get PySem.F.type_dict_get (thn (ho pins s σ H _ I h) fun u s1 ⟨x,H1,I1,rx,a,ex,d,q1⟩=>?_)
 subst ex
 obtain rfl:u=Value.ref a:=rx
 obtain ⟨t1,t2,_⟩:=isD_at I1 d
 refine ⟨t1,t2,?_⟩
 rw [m.trees]
 refine Calls.callWith_builtin rfl (Calls.evalArgs_plain (Calls.spliced_cons (thn (he pins s1 σ H1 _ I1 q1) fun iv s2 ⟨y,H2,I2,ry,ov,g,q2⟩=>Calls.spliced_nil ?_)))
 exact d_get1 hu I2 g ry fun w' s3 I3 rw'=>⟨_,H2,I3,rw',q2⟩
end
end L2
namespace L2
open PySem PySem.Spec PyProof.Rows
theorem list_keys_none:typeLookup (.type "list") "keys"=pure none:=am_miss_of_fast (by first|decide+kernel|rfl)
theorem ud_entry:entryFor table "dict.update.loop"=some Builtin.«dict.update.loop»:=entryFor_of_tree (by kernel_rfl)
theorem ud_plain:plainId "dict.update.loop"=true:=by decide+kernel
section
variable {prog:Program} {w:World} {A:Around} {E:Value->Shared->Prop}
theorem miss_list {s:Shared} {a:Addr} {o:Obj} {xs:Array Value} {k:Nat} {Q:Option Value->Shared->Prop} (hx:s.heap.get? a=some o) (hc:o.cls= .type "list") (hdat:o.data= .seq xs k) (hd:o.dict=none) (hA:A.handled=none)
  (h:∀h' tk,(∀b ob,s.heap.get? b=some ob->h'.get? b=some ob)->Q none {s with heap:=h',toks:=tk}):wpAny (model prog w) A (getAttr? (.ref a) "keys") Q E s:=by
 obtain ⟨c,dct,dat,sl⟩:=o
 simp only at hc hdat hd
 subst hc hdat hd
 obtain ⟨hp,g,d,tk,os⟩:=s
 have hT:∀tk',(⟨hp,g,d,tk',os⟩:Shared).TypeIs (.ref a) "list":=fun _=>⟨_,hx,rfl⟩
 have hmiss:=list_keys_none
 have hname:(["__module__","__name__","__qualname__","__doc__","__annotations__"]:List Str).contains "keys"=false:=by decide+kernel
 have hsz:("keys":Str).length+100<=sizeLine:=by first|size_fits|decide+kernel
 have f1:=sub_AttributeError
 have f3:=PySem.F.slot_list_getattribute.lookup
 have f4:=PySem.F.slot_list_getattribute.bind (.ref a)
 have f5:=am_list_getattr_none
 unfold getAttr? getAttrBy? getAttrBy
 repeat (any_goals (first|assumption|exact hT _|((with_reducible show wpAny _ _ (call (Value.builtin "list.__getattribute__") _ _) _ _ _);refine call_meets PySem.F.slot_list_getattribute (hT _) am_entry_list_getattribute (PySem.F.args_list_getattribute_2 _ _) (meets_getattribute_miss_list a xs k sl "keys" _ hmiss hname hsz) ⟨hx,hA,fun h' tk' e hx'=>?_⟩)|wp_step))
 obtain ⟨t',u',he⟩:=hx'.there
 show wpAny _ _ (getattributeRaised _ _ _ _ _ _ _) _ _ _
 unfold getattributeRaised
 repeat (any_goals (first|assumption|wp_step))
 all_goals first|exact h _ _ hx'.keeps|(dsimp only;repeat (any_goals (first|assumption|exact h _ _ hx'.keeps|wp_step)))
end
section
variable {X:Cx}
theorem refs_at:∀{ps:List Addr} {us:List Value},Vals (ps.map V.ref) us->us=ps.map Value.ref
 | [],us,r=>by
  rw [List.map_nil] at r
  cases r
  rfl
 |p::ps,us,r=>by
  rw [List.map_cons] at r
  cases r with
  |cons h t=>
   cases h
   rw [List.map_cons,←refs_at t]
end
end L2
namespace L2
open PySem PySem.Spec PyProof.Rows
section
variable {X:Cx} {pins:List (Addr×Obj)} {σ:St} {H:Hp} {s:Shared} {h':Heap}
theorem Inv.turnedNew {t':Nat} {ch:List Addr} {T:Addr} {ob:HO} (I:Inv X pins σ H s) (k:∀b o,b∉ch->s.heap.get? b=some o->h'.get? b=some o) (hf:∀b∈ch,FpOk X pins H b) (hT:s.heap.objs.size<=T)
  (new:ObjOk X.prog X.w (upd H T ob) h' T ob):Inv X pins σ (upd H T ob) {s with heap:=h',toks:=t'}:=by
 have hn:H T=none:=I.hok.fresh hT
 have nit:∀b u,H b=some u->b∉ch:=fun b u e z=>by
  have q:=(hf b z).1
  rw [q] at e;cases e
 refine I.step (g':=s.gens) (d':=s.drawn) (ch:=ch) (fun b hb=>⟨(hf b hb).2.2.2.1,(hf b hb).2.1,(hf b hb).2.2.2.2.1,(hf b hb).2.2.2.2.2⟩) (fun b o _ _ hc e _=>k b o hc e) (fun b o _ _ hc e _=>⟨o.slots,k b o hc e⟩)
  (fun b o _ e n=>?_) (fun b o hc e=>⟨o,k b o hc e⟩) (fun b xs e=>?_) (fun b o u e=>?_) (fun b ps e=>⟨#[],?_⟩) (fun m hm=>?_) (fun b u e=>?_) I.bare
 ·rw [upd_ne (Nat.ne_of_lt (Nat.lt_of_lt_of_le (Heap.lt_size e) hT))];exact n
 ·rw [upd_ne (ne_of_none e hn)];exact e
 ·rw [upd_ne (ne_of_none e hn)];exact e
 ·rw [upd_ne (ne_of_none e hn),e];simp
 ·obtain ⟨o,es,ep,ho,r⟩:=hm
  exact ⟨o,es,ep,k _ o (fun z=>(hf _ z).2.1 rfl) ho,r⟩
 ·by_cases hb:b=T
  ·subst hb
   rw [upd_same] at e
   cases e
   exact new
  ·rw [upd_ne hb] at e
   refine (I.hok b u e).stay (fun c v hc q=>k c v ?_ q) (fun c q=>by rw [upd_ne (ne_of_none q hn)];exact q) fun c xs q=>by rw [upd_ne (ne_of_none q hn)];exact q
   rcases hc with z|z
   ·rw [z];exact nit b u e
   ·exact nit c _ z
end
section
variable {X:Cx}
theorem pi_one {tg:Expr} {pins:List (Addr×Obj)} {σ:St} {H:Hp} {s:Shared} {R:It->Hp->Prop} {J:It} {tn:Nat->Heap->Prop} {tk:Nat} (I:Inv X pins σ H s) (o:Obj)
  (T:Turn X.prog X.w X.K tg J [s.heap.objs.size] s.heap.objs.size tn) (st:tn 0 (s.heap.push o)) (q:R J H):PIE X pins σ tg R (.ref s.heap.objs.size) {s with heap:=s.heap.push o,toks:=tk}:=by
 refine ⟨s.heap.objs.size,[s.heap.objs.size],tn,J,H,rfl,I.kept fun b ob e=>Heap.get?_push_of_some _ e,T,st,fun b hb=>?_,q⟩
 have e:b=s.heap.objs.size:=by simpa using hb
 subst e
 exact I.fpOk (Nat.le_refl _) (I.hok.fresh (Nat.le_refl _))
end
def Itc (lo c:Int) (n:Nat):It:=⟨fun i _=>i < n,fun i H x H'=>H'=H/\x= .int (lo+(i:Nat)*c),fun i _=>n<=i⟩
theorem turn_rangeC {P:Program} {w:World} {K:PySem.W.Frag} {tg:Expr} (it:Addr) (lo c:Int) (n:Nat):Turn P w K tg (Itc lo c n) [it] it (fun i h=>IsRangeIter h it (lo+(i:Nat)*c) ((n:Int) - (i:Nat)) c) where
 mem:=by simp
 obj:=fun i h st b hb=>by
  have e:b=it:=by simpa using hb
  subst e
  exact ⟨_,st,fun v z=>nomatch z⟩
 keep:=fun i h h' st k=>k it (by simp) _ st
 item:=by
  intro X hP hw hK hc i pins s σ H E I hf st hg
  subst hP hw hK
  obtain ⟨f0,f1,f2,f3,f4,f5⟩:=hf it (by simp)
  have W:=Walks.range (prog:=X.prog) (w:=X.w) (I.ok.hd hc) it lo c n
  refine W.item i s _ _ hg st fun v h' tk hv st' kk=>?_
  obtain ⟨t,rfl⟩:=hv
  have I1:Inv X pins σ H {s with heap:=h',toks:=tk}:=I.turned (fun b o hb e=>kk b o (by simpa using hb) e) f0 f1 f3 f4 f5
  exact ⟨_,rfl,go_of (s:={s with heap:=h',toks:=tk}) (n:="range_iterator") st' rfl rfl (by decide) ⟨.int (lo+(i:Nat)*c),H,I1,⟨t,rfl⟩,⟨rfl,rfl⟩,st',fun b hb=>(hf b hb).1⟩⟩
 done:=by
  intro X hP hw hK hc i pins s σ H E I hf st hg
  subst hP hw hK
  obtain ⟨f0,f1,f2,f3,f4,f5⟩:=hf it (by simp)
  exact wpAny_pyNext_range_end (I.ok.hd hc) st (by have:n<=i:=hg;omega) fun h' eb=>⟨rfl,I.turned (t':=s.toks) (fun b o hb e=>eb b o hb e) f0 f1 f3 f4 f5⟩
 self:=fun A i s Q E st h=>wpAny_pyIter_rangeiter st h
def RgC (i j c:Int) (n:Nat):Prop:=c≠0/\c.natAbs < 1073741824/\Builtin.Range.small i j c=true/\Builtin.Range.rangeSize i j c=n
theorem RgC.neg {i j:Int} (ha: -(2 ^ 62)<=i) (ha':i < 2 ^ 62) (hb: -(2 ^ 62)<=j) (hb':j < 2 ^ 62):RgC i j (-1) (i - j).toNat:=
 ⟨by decide,by decide,PySem.W.small_down ha ha' hb hb',PySem.W.rangeSize_downNat i j⟩
def iRng3 (ta:TA):TI:=fun σ H R=>ta σ H fun vs H1=>∃(i j c:Int) (n:Nat),vs= [.int i,.int j,.int c]/\RgC i j c n/\R (Itc i c n) H1
section
variable {X:Cx} {tg:Expr}
theorem pi_range3 {a b c:Expr} {ta:TA} {p pos:Pos} (hg:Gl X "range") (hm:X.mg "range"=none) (ha:PA X [a,b,c] ta)
  (hs:starEach [a,b,c] X.env=(false,eval a X.env)::starEach [b,c] X.env:=by rfl) (hpl:(backTo pos (starEach [b,c] X.env)).any (·.1)=false:=by rfl):
  PI X tg (.Call (.Name "range" p) [a,b,c] [] pos) (iRng3 ta):=by
 intro pins s σ H R I h
 refine Call_ (ld_blt I hg hm boot_range (PyProof.Rows.callWith_type1 (thn (ha pos pins s σ H _ I h) fun us s1 ⟨vs,H1,I1,r1,q1⟩=>?_) hs hpl))
 obtain ⟨i,j,k,n,e,⟨c0,c1,c2,c3⟩,q⟩:=q1
 subst e
 cases r1 with
 |cons r rr=>
  cases rr with
  |cons r' rr=>
   cases rr with
   |cons r'' rr=>
    cases rr
    obtain ⟨t,rfl⟩:=r
    obtain ⟨t',rfl⟩:=r'
    obtain ⟨t'',rfl⟩:=r''
    refine call_range_3 c0 ?_ (.inl (PyProof.noPylong_small c1))
    refine wpAny_pyIter_range (IsRange.new ..) c2 ?_
    have I2:Inv X pins σ H1 {s1 with heap:=s1.heap.push {cls:= .type "range",data:= .fields #[.int i t,.int j t',.int k t'']}}:=I1.kept (t':=s1.toks) fun b o e=>Heap.get?_push_of_some _ e
    refine pi_one (tk:=s1.toks) I2 _ (turn_rangeC _ i k n) ?_ q
    have e1:i+((0:Nat):Int)*k=i:=by simp
    have e2:(n:Int) - ((0:Nat):Int)=Builtin.Range.rangeSize i j k:=by rw [c3];simp
    show IsRangeIter _ _ (i+((0:Nat):Int)*k) ((n:Int) - ((0:Nat):Int)) k
    rw [e1,e2]
    exact Heap.get?_push_size _ rfl
end
theorem for_rangeC {lo c : Int} {n : Nat} {g : TG} {tb : TS} {D : Ends} {σ : St} {H : Hp} (Pv : Nat -> St -> Hp -> Prop) (h0 : Pv 0 σ H)
  (hs : ∀ i σ H, i < n -> Pv i σ H -> g (.int (lo + (i : Nat) * c)) σ H fun σ2 H2 => tb { D with nx := Pv (i + 1), ct := Pv (i + 1), bk := D.nx } σ2 H2) (hd : ∀ σ H, Pv n σ H -> D.nx σ H) :
  ∃ W : Nat -> Nat -> St -> Hp -> Prop, (∃ m, W 0 m σ H) /\ ∀ i m σ H, W i m σ H ->
   ((Itc lo c n).stop i H /\ D.nx σ H) ∨ ((Itc lo c n).go i H /\ ∃ N : St -> Hp -> Prop, (∀ σ' H', N σ' H' -> ∃ m', m' < m /\ W (i + 1) m' σ' H') /\ ∀ x H', (Itc lo c n).yld i H x H' -> g x σ H' fun σ2 H2 => tb { D with nx := N, ct := N, bk := D.nx } σ2 H2) := by
 refine ⟨fun i m σ H => m = n - i /\ i <= n /\ Pv i σ H, ⟨n, by simp, Nat.zero_le _, h0⟩, ?_⟩
 rintro i m σ H ⟨rfl, hi, p⟩
 by_cases hlt : i < n
 ·refine .inr ⟨hlt, Pv (i + 1), fun σ' H' p' => ⟨n - (i + 1), by omega, rfl, hlt, p'⟩, fun x H' y => ?_⟩
  obtain ⟨e, y⟩ := y
  subst e y
  exact hs i σ _ hlt p
 ·have e : i = n := by omega
  subst e
  exact .inl ⟨Nat.le_refl _, hd σ H p⟩
def Its (x:Str):It:=⟨fun i _=>i < x.cps.size,fun i H v H'=>H'=H/\∃c,x.cps[i]? =some c/\v= .str ⟨#[c]⟩,fun i _=>x.cps.size<=i⟩
theorem turn_str {P:Program} {w:World} {K:PySem.W.Frag} {tg:Expr} (it:Addr) (x:Str) (t:Tok) (ty:String) (hty:ty="str_ascii_iterator"∨ty="str_iterator"):
  Turn P w K tg (Its x) [it] it (fun i h=>h.IsStrIter it ty x t i) where
 mem:=by simp
 obj:=fun i h st b hb=>by
  have e:b=it:=by simpa using hb
  subst e
  obtain ⟨o,e,c,d⟩:=st
  exact ⟨o,e,fun v z=>by rw [d] at z;cases z⟩
 keep:=fun i h h' st k=>let ⟨o,ho,r⟩:=st;⟨o,k it (by simp) o ho,r⟩
 item:=by
  intro X hP hw hK hc i pins s σ H E I hf st hg
  subst hP hw hK
  obtain ⟨f0,f1,f2,f3,f4,f5⟩:=hf it (by simp)
  have W:Walks X.prog X.w X.A it [it] [it] x.cps.size (SignAt x) (fun i h=>h.IsStrIter it ty x t i):=by
   rcases hty with e|e
   ·rw [e];exact Walks.strAscii (I.ok.hd hc) it x t
   ·rw [e];exact Walks.strWide (I.ok.hd hc) it x t
  have hno: ["enumerate","zip","dict_itemiterator","dict_reverseitemiterator","odict_iterator","itertools.zip_longest","itertools.pairwise"].contains ty=false:=by
   rcases hty with e|e
   ·rw [e];decide
   ·rw [e];decide
  refine W.item i s _ _ hg st fun v h' tk hv st' kk=>?_
  obtain ⟨c,u,hcx,rfl⟩:=hv
  have I1:Inv X pins σ H {s with heap:=h',toks:=tk}:=I.turned (fun b o hb e=>kk b o (by simpa using hb) e) f0 f1 f3 f4 f5
  obtain ⟨oi,e,cc,dd⟩:=id st'
  exact ⟨_,rfl,go_of (s:={s with heap:=h',toks:=tk}) e cc dd hno ⟨.str ⟨#[c]⟩,H,I1,⟨u,rfl⟩,⟨rfl,c,hcx,rfl⟩,st',fun b hb=>(hf b hb).1⟩⟩
 done:=by
  intro X hP hw hK hc i pins s σ H E I hf st hg
  subst hP hw hK
  obtain ⟨f0,f1,f2,f3,f4,f5⟩:=hf it (by simp)
  have hx:x.cps[i]? =none:=Array.getElem?_eq_none hg
  rcases hty with e|e
  ·rw [e] at st
   exact wpAny_pyNext_ascii_end (I.ok.hd hc) st hx fun h' eb=>⟨rfl,I.turned (t':=s.toks) (fun b o hb e=>eb b o hb e) f0 f1 f3 f4 f5⟩
  ·rw [e] at st
   exact wpAny_pyNext_wide_end (I.ok.hd hc) st hx fun h' eb=>⟨rfl,I.turned (t':=s.toks) (fun b o hb e=>eb b o hb e) f0 f1 f3 f4 f5⟩
 self:=fun A i s Q E st h=>by
  rcases hty with e|e
  ·rw [e] at st;exact wpAny_pyIter_striter_ascii st h
  ·rw [e] at st;exact wpAny_pyIter_striter_wide st h
def iStr (te:TE):TI:=fun σ H R=>te σ H fun v H1=>∃x,v= .str x/\R (Its x) H1
theorem pi_str {X:Cx} {tg e:Expr} {te:TE} (he:PE X e te):PI X tg e (iStr te):=by
 intro pins s σ H R I h
 refine thn (he pins s σ H _ I h) fun v s1 ⟨y,H1,I1,r1,x,ex,q⟩=>?_
 subst ex
 obtain ⟨t,rfl⟩:=r1
 cases ha:x.cps.all (· < 128)
 ·exact wpAny_pyIter_wide ha (pi_one (tk:=s1.toks) I1 _ (turn_str _ x t "str_iterator" (.inr rfl)) ⟨_,Heap.get?_push_size _ rfl,rfl,rfl⟩ q)
 ·exact wpAny_pyIter_ascii ha (pi_one (tk:=s1.toks) I1 _ (turn_str _ x t "str_ascii_iterator" (.inl rfl)) ⟨_,Heap.get?_push_size _ rfl,rfl,rfl⟩ q)
def Ite (K:PySem.W.Frag) (a:Addr):It:=
 ⟨fun i H=>∃(xs:List V) (x:V),SqL K H a xs/\xs[i]? =some x,fun i H v H'=>∃T x,v= .ref T/\H T=none/\H'=upd H T (.tup [.int (i:Nat),x])/\∀xs,SqL K H a xs->xs[i]? =some x,fun i H=>∃xs:List V,SqL K H a xs/\xs.length<=i⟩
theorem turn_enum {P:Program} {w:World} {K:PySem.W.Frag} {elts:List Expr} {kk:Nat} {tpos:Pos} (a e it:Addr):
  Turn P w K (.Tuple elts kk tpos) (Ite K a) [e,it] e (fun i h=>(∃old,IsEnum h e it ((i:Nat):Int) old)/\h.IsListIter it a i/\e≠it) where
 mem:=by simp
 obj:=fun i h st b hb=>by
  obtain ⟨⟨old,he⟩,⟨o,ho,hc,hd⟩,_⟩:=st
  have e':b=e∨b=it:=by simpa using hb
  rcases e' with z|z
  ·rw [z];exact ⟨_,he,fun v q=>nomatch q⟩
  ·rw [z];exact ⟨o,ho,fun v q=>by rw [hd] at q;cases q⟩
 keep:=fun i h h' st k=>let ⟨⟨old,he⟩,hi,hne⟩:=st;⟨⟨old,k e (by simp) _ he⟩,hi.at fun o q=>k it (by simp) o q,hne⟩
 item:=by
  intro X hP hw hK hc i pins s σ H E I hf st hg
  subst hP hw hK
  obtain ⟨⟨old,he⟩,hit,hne⟩:=st
  obtain ⟨xs,x,hq,hx⟩:=hg
  obtain ⟨its,rv,p,hz⟩:=I.list hq
  obtain ⟨u,hu,ru⟩:=rv.get hx
  have hel:e < s.heap.objs.size:=Heap.lt_size he
  have hil:it < s.heap.objs.size:=by obtain ⟨_,q,_⟩:=hit;exact Heap.lt_size q
  refine wpAny_pyNext_enum_item he hit p.isList (x:=u) (by simpa using hu) hne fun h' ho hit' hT hsz hk=>?_
  refine ⟨_,rfl,wpAny_letOwnedTupleGo_enum (s:={s with heap:=h',toks:=s.toks+1}) ho fun h'' he' sb=>?_⟩
  have hT2:h''.get? s.heap.objs.size=some {cls:= .type "tuple",data:= .seq #[.int i s.toks,u]}:=(sb.2 _ (Nat.ne_of_gt hel)).trans hT
  have new:ObjOk X.prog X.w (upd H s.heap.objs.size (.tup [.int (i:Nat),x])) h'' s.heap.objs.size (.tup [.int (i:Nat),x]):=
   ⟨by show 2<=sizeLine;decide,[.int i s.toks,u],.cons ⟨_,rfl⟩ (.cons ru .nil),⟨_,hT2,rfl,_,rfl⟩⟩
  have I1:Inv X pins σ (upd H s.heap.objs.size (.tup [.int (i:Nat),x])) {s with heap:=h'',toks:=s.toks+1}:=
   I.turnedNew (ch:= [e,it]) (fun b ob hb q=>(sb.2 b (fun z=>hb (by simp [z]))).trans (hk b ob (fun z=>hb (by simp [z])) (fun z=>hb (by simp [z])) q)) hf (Nat.le_refl _) new
  refine ⟨.ref s.heap.objs.size,_,I1,rfl,⟨_,x,rfl,I.hok.fresh (Nat.le_refl _),rfl,fun ys hy=>by rw [I.list_inj hy hq];exact hx⟩,⟨⟨u,?_⟩,hit'.at fun o q=>(sb.2 it (Ne.symm hne)).trans q,hne⟩,fun b hb=>?_⟩
  ·have e1:((i+1:Nat):Int)=(i:Int)+1:=by omega
   rw [e1];exact he'
  ·have hb':b < s.heap.objs.size:=by
    have e':b=e∨b=it:=by simpa using hb
    rcases e' with z|z
    ·rw [z];exact hel
    ·rw [z];exact hil
   rw [upd_ne (Nat.ne_of_lt hb')]
   exact (hf b hb).1
 done:=by
  intro X hP hw hK hc i pins s σ H E I hf st hg
  subst hP hw hK
  obtain ⟨⟨old,he⟩,hit,hne⟩:=st
  obtain ⟨xs,hq,hx⟩:=hg
  obtain ⟨its,rv,p,hz⟩:=I.list hq
  obtain ⟨f0,f1,f2,f3,f4,f5⟩:=hf it (by simp)
  have hl:=rv.length
  exact wpAny_pyNext_enum_end (I.ok.hd hc) he hit p.isList (by simp;omega) fun h' eb=>⟨rfl,I.turned (t':=s.toks) (fun b o hb q=>eb b o hb q) f0 f1 f3 f4 f5⟩
 self:=fun A i s Q E st h=>let ⟨⟨_,he⟩,_⟩:=st;wpAny_pyIter_enum he h
def iEnum (K:PySem.W.Frag) (ta:TA):TI:=fun σ H R=>ta σ H fun vs H1=>∃a xs,vs= [.ref a]/\SqL K H1 a xs/\R (Ite K a) H1
theorem pi_enum {X:Cx} {e:Expr} {ta:TA} {p pos tpos:Pos} {elts:List Expr} {kk:Nat} (hg:Gl X "enumerate") (hm:X.mg "enumerate"=none) (ha:PA X [e] ta) (hs:starEach [e] X.env= [(false,eval e X.env)]:=by rfl):
  PI X (.Tuple elts kk tpos) (.Call (.Name "enumerate" p) [e] [] pos) (iEnum X.K ta):=by
 intro pins s σ H R I h
 refine Call_ (ld_blt I hg hm boot_enumerate (PyProof.Rows.callWith_type1 (thn (ha pos pins s σ H _ I h) fun us s1 ⟨vs,H1,I1,r1,q1⟩=>?_) hs rfl))
 obtain ⟨a,xs,ex,hq,q⟩:=q1
 subst ex
 cases r1 with
 |cons r rr=>
  cases rr
  cases r
  obtain ⟨its,rv,p',hz⟩:=I1.list hq
  refine call_enumerate_list p'.isList fun h' he hit hsz hk=>wpAny_pyIter_enum he ?_
  have I2:Inv X pins σ H1 {s1 with heap:=h'}:=I1.kept (t':=s1.toks) hk
  refine ⟨s1.heap.objs.size+1,[s1.heap.objs.size+1,s1.heap.objs.size],_,_,H1,rfl,I2,turn_enum a (s1.heap.objs.size+1) s1.heap.objs.size,⟨⟨.none,he⟩,hit,Nat.succ_ne_self _⟩,fun b hb=>?_,q⟩
  have e':b=s1.heap.objs.size+1∨b=s1.heap.objs.size:=by simpa using hb
  have hle:s1.heap.objs.size<=b:=by
   rcases e' with z|z
   ·rw [z];exact Nat.le_add_right _ _
   ·rw [z];exact Nat.le_refl _
  exact I1.fpOk hle (I1.hok.fresh hle)
end L2
section
namespace TL
open PySem PySem.Builtin PySem.Builtin.Str PySem.StrLaws
abbrev tl (x:Str):List Nat:=x.cps.toList
theorem len_tl (x:Str):x.length=(tl x).length:=by simp [tl,Str.length]
theorem ext_tl {x y:Str} (h:tl x=tl y):x=y:=Str.ext' (Array.toList_inj.mp h)
theorem mk_tl (x:Str):(⟨(tl x).toArray⟩:Str)=x:=ext_tl rfl
def numL (n:Nat):List Nat:=(Nat.toDigits 10 n).map Char.toNat
theorem tl_num (n:Nat):tl (Str.ofString (toString ((n:Nat):Int)))=numL n:=PySem.W.KIN.signs_num n
theorem digitChar_nat:∀d:Nat,d < 10->(Nat.digitChar d).toNat=48+d:=by decide
theorem numL_lt {n:Nat} (h:n < 10):numL n= [48+n]:=by
 unfold numL
 rw [Nat.toDigits_of_lt_base h]
 show [(Nat.digitChar n).toNat]=_
 rw [digitChar_nat n h]
theorem numL_step {n:Nat} (h:10<=n):numL n=numL (n / 10)++ [48+n % 10]:=by
 have hm:n % 10 < 10:=Nat.mod_lt n (by decide)
 have t:Nat.toDigits 10 (n / 10)++Nat.toDigits 10 (n % 10)=Nat.toDigits 10 (10*(n / 10)+n % 10):=Nat.toDigits_append_toDigits (by decide) (by omega) hm
 rw [Nat.div_add_mod] at t
 show (Nat.toDigits 10 n).map Char.toNat=_
 rw [←t,List.map_append,Nat.toDigits_of_lt_base hm]
 show (Nat.toDigits 10 (n / 10)).map Char.toNat++ [(Nat.digitChar (n % 10)).toNat]=_
 rw [digitChar_nat _ hm]<;>rfl
theorem numL_digits (n:Nat):NumText.AllDigits (numL n):=by
 induction n using Nat.strongRecOn with
 |_ n ih=>
  by_cases h:n < 10
  ·rw [numL_lt h]
   intro c hc
   rw [List.mem_singleton.mp hc]
   omega
  ·rw [numL_step (by omega)]
   intro c hc
   rcases List.mem_append.mp hc with hc|hc
   ·exact ih (n / 10) (by omega) c hc
   ·have hm:n % 10 < 10:=Nat.mod_lt n (by decide)
    rw [List.mem_singleton.mp hc]
    omega
theorem numL_ne (n:Nat):numL n≠ []:=by
 by_cases h:n < 10
 ·rw [numL_lt h]
  simp
 ·rw [numL_step (by omega)]
  simp
theorem numL_val (n:Nat):NumText.digitsVal (numL n)=n:=PySem.W.KIN.val_back n
theorem numL_len {n k:Nat} (hk:0 < k) (h:n < 10 ^ k):(numL n).length<=k:=by
 have z:=PyProof.Rows.toString_length_le (v:=(n:Int)) (by omega) hk (by
  have e:((10:Int) ^ k)=((10 ^ k:Nat):Int):=by
   first
    |exact (Int.natCast_pow 10 k).symm
    |simp
  rw [e]
  first|exact Int.ofNat_lt.mpr h|omega)
 rw [len_tl,tl_num] at z
 exact z
theorem int_num {n:Nat} (h:(numL n).length<=4300):intText? (Str.ofString (toString ((n:Nat):Int)))=some (n:Int):=by
 have e:=intText_digits (x:=Str.ofString (toString ((n:Nat):Int))) (by rw [show (Str.ofString (toString ((n:Nat):Int))).cps.toList=numL n from tl_num n];exact numL_digits n)
  (by rw [show (Str.ofString (toString ((n:Nat):Int))).cps.toList=numL n from tl_num n];exact numL_ne n) (by rw [len_tl,tl_num];exact h)
 rw [show (Str.ofString (toString ((n:Nat):Int))).cps.toList=numL n from tl_num n,numL_val] at e
 exact e
end TL
end
namespace L2
open PySem PySem.Spec PyProof.Rows
section
variable {X:Cx}
theorem call_int_str:CallR X (.type "int") (fun xs H Q=>∃a n,xs= [.str a]/\PySem.intText? a=some n/\a.length<=640/\Q (.int n) H):=by
 intro pins s σ H xs us Q I rs h
 obtain ⟨a,n,rfl,hn,hl,h⟩:=h
 cases rs with
 |cons r1 rs=>
  cases rs
  obtain ⟨t,rfl⟩:=r1
  exact PySem.W.KIN.call_text hn hl ⟨.int n,H,I.tok _,⟨_,rfl⟩,h⟩
end
end L2
namespace L2
open PySem PySem.Spec PyProof.Rows
abbrev KOf {K:PySem.W.Frag} {h:Heap} (_:K.In h):PySem.W.Frag:=K
end L2
/- THE LAST THEOREM (shape; LID, My.* are yours):
   My.Adr: a structure of the addresses that your layer names (classes, functions); My.Txt K t: a structure (Prop) of the equations over K;
   My.txt_mk : {K} {implicit addresses ..} (e1 : nsIn K mainGlobals "law" = some (some (.ref f))) (e2 : K.lookup f = some ⟨oc, od, .func (fnOf "law" "law" params body scope dV kV doc pm an cdv ct), sl⟩) (e3 : codeIn K cdv "law" = true) .. : ∃ t, My.Txt K t

set_option maxRecDepth 100000 in
set_option maxHeartbeats 0 in
theorem PySem.Challenge.cw_LID_holds : PySem.Challenge.rw_LID.Holds := by
 w_on; o_law; k_head; (case hw => w_witness2)
 k_fill
 refine L2.walk_of (l := PySem.Challenge.rw_LID) (n := 63) (k := 40) (x := "script") (CX := fun w => ..) (sp := fun _ => My.sp_law) rfl (by decide) rfl ⟨rfl, by decide, by decide⟩ (fun w h Y => PySem.W.kIn_of Y) ?F ?S ?C
 case F =>
  intro w mg fa h KX G hmg
  have T : ∃ t, My.Txt (L2.KOf KX) t := by
   dsimp only [L2.KOf]                          -- K must stand as «<heap const> w.params» for k_is
   refine' My.txt_mk ?e1 ?e2 ?e3 ..
   (case e1 => PySem.W.k_is)                    -- in the order: a name -> its address -> its object -> its parts
   (case e2 => PySem.W.k_is)
   ..
  obtain ⟨t, T⟩ := T
  have e0 := hmg.symm.trans (PySem.W.mg_of KX G T.law)
  cases e0                                       -- fa is the law's own address
  exact ⟨_, fun s u => .of_eq rfl, fun base kb nb => My.law_fn T kb nb⟩     -- if «.of_eq rfl» comes too early: refine' ⟨_, ?b, fun base kb nb => My.law_fn T kb nb⟩; exact fun s u => .of_eq rfl
 case S => exact fun w H a ns hl hO hS => ..
 case C => exact ..
(the tactic k_is has no namespace:write k_is) -/
namespace L2
open PySem PySem.Spec PyProof.Rows
def inClass (s:Stmt) (j:Nat):Stmt:=match s with
 | .ClassDef _ _ _ body _ _ _ _ _ _ _=>body.getD j (.Pass ⟨0,0,0,0⟩)
 |_=> .Pass ⟨0,0,0,0⟩
def defArgs (s:Stmt):Arguments:=match s with
 | .FunctionDef _ a _ _ _ _ _ _ _ _=>a
 |_=>{posonlyargs:= [],args:= [],vararg:=none,kwonlyargs:= [],kw_defaults:= [],kwarg:=none,defaults:= []}
def defBody (s:Stmt):List Stmt:=match s with
 | .FunctionDef _ _ b _ _ _ _ _ _ _=>b
 |_=> []
def defScope (s:Stmt):Scope:=match s with
 | .FunctionDef _ _ _ _ _ _ sc _ _ _=>sc
 |_=>{kind:= .function,names:= [],isGenerator:=false,isCoroutine:=false}
abbrev E0:XK:=fun _ _ _=>False
structure Fun (K:PySem.W.Frag) (x qual:Str) (st:Stmt) (f:Addr) (fd:FuncData):Prop where
 ex:∃(oc:Value) (od:Option Addr) (kV doc pm:Value) (an:Option Addr) (cdv ct:Value) (osl:Array (Option Value)),
  fd=PySem.W.fnOf x qual (defArgs st) (defBody st) (defScope st) .none kV doc pm an cdv ct/\K.lookup f=some ⟨oc,od,.func fd,osl⟩/\PySem.W.codeIn K cdv qual=true
 kp:PySem.W.keepIn K (.ref f)=true
section
variable {P:Program} {w:World} {K:PySem.W.Frag} {mg:Str->Option Value} {base:Heap}
theorem Fun.binds {x qual:Str} {st:Stmt} {f:Addr} {fd:FuncData} {ps:List Str} (F:Fun K x qual st f fd)
  (h:∀(kV doc pm:Value) (an:Option Addr) (cdv ct:Value) (us:List Value),us.length=ps.length->bindArgs (PySem.W.fnOf x qual (defArgs st) (defBody st) (defScope st) .none kV doc pm an cdv ct) ⟨us,[]⟩=pure (ps.zip us)):Binds K fd ps []:=by
 obtain ⟨oc,od,kV,doc,pm,an,cdv,ct,osl,rfl,lk,hcd⟩:=F.ex
 exact .all (h kV doc pm an cdv ct)
theorem fun_mk {x qual:Str} {st:Stmt} {f:Addr} {oc:Value} {od an:Option Addr} {osl:Array (Option Value)} {kV doc pm cdv ct:Value} (l:K.lookup f=some ⟨oc,od,.func (PySem.W.fnOf x qual (defArgs st) (defBody st) (defScope st) .none kV doc pm an cdv ct),osl⟩)
  (c:PySem.W.codeIn K cdv qual=true) (k:PySem.W.keepIn K (.ref f)=true):Fun K x qual st f (PySem.W.fnOf x qual (defArgs st) (defBody st) (defScope st) .none kV doc pm an cdv ct):=⟨⟨oc,od,kV,doc,pm,an,cdv,ct,osl,rfl,l,c⟩,k⟩
end
theorem hu_of {A:Around} {k:Nat} (hr:Room k A):A.units+1 < cLine:=Nat.lt_of_le_of_lt (Nat.add_le_add_left (by decide:1<=64) _) hr.units
theorem small1000 {n:Nat} (h:n<=1000):n < sizeLine:=Nat.lt_of_le_of_lt h (by decide)
section
variable {X:Cx}
theorem pv (i:Nat) {x:Str} {pos:Pos} (hN:X.N[i]? =some x:=by rfl) (hv:Vis X.env.scope x:=by first|exact Or.inl rfl|exact Or.inr (Or.inl rfl)|exact Or.inr (Or.inr rfl)) (hd:(x==("__debug__":Str))=false:=by decide)
  (hcd:(x==("__classdict__":Str))=false:=by decide):PE X (.Name x pos) (tVar i):=pe_var hN hv hd hcd
end
theorem iteF {A B:Prop} (h:B):if false=true then A else B:=by
 rw [if_neg Bool.false_ne_true]
 exact h
theorem iteT {A B:Prop} (h:A):if true=true then A else B:=by
 rw [if_pos rfl]
 exact h
def Same (H H':Hp):Prop:=∀b o,H b=some o->H' b=some o
theorem Same.refl (H:Hp):Same H H:=fun _ _ h=>h
theorem Same.trans {H H1 H2:Hp} (a:Same H H1) (b:Same H1 H2):Same H H2:=fun c o h=>b c o (a c o h)
theorem Same.free {H H':Hp} (e:Same H H') {l:Addr} (h:H' l=Option.none):H l=Option.none:=by
 cases q:H l with
 |none=>rfl
 |some o=>
  rw [e l o q] at h
  cases h
theorem Same.seq {K:PySem.W.Frag} {H H':Hp} {a:Addr} {xs:List V} (e:Same H H') (h:SqL K H a xs):SqL K H' a xs:=by
 rcases h with (h|⟨o,h⟩)|h
 ·exact .inl (.inl (e _ _ h))
 ·exact .inl (.inr ⟨o,e _ _ h⟩)
 ·exact .inr h
section
variable {κ:Type} [DecidableEq κ]
theorem valV_in {kvs:List (κ×V)} {k:κ} {v:V} (h:valV kvs k=some v):k∈kvs.map (·.1):=by
 have q:(kvs.any fun kv=>decide (kv.1=k))=true:=by
  rw [valV_any,h]
  all_goals rfl
 obtain ⟨p,hp,e⟩:=List.any_eq_true.mp q
 exact List.mem_map.mpr ⟨p,hp,of_decide_eq_true e⟩
end
end L2
section
namespace L2
open PySem PySem.Spec PyProof.Rows
open PySem.W (WData Codec OpenSpec Well WellAll ReadsW ReadsAllW)
mutual
inductive Dw (K:PySem.W.Frag) (H:Hp):V->WData->Prop
 |non:Dw K H .non .none
 |bl (b:Bool):Dw K H (.bl b) (.bool b)
 |int (i:Int):Dw K H (.int i) (.int i)
 |str (x:Str):Dw K H (.str x) (.str x)
 |byt (b:Array UInt8):Dw K H (.byt b) (.bytes b.toList)
 |lst {a:Addr} {xs:List V} {ds:List WData}:SqL K H a xs->DwAll K H xs ds->Dw K H (.ref a) (.list ds)
 |tup {a:Addr} {xs:List V} {ds:List WData}:SqT K H a xs->DwAll K H xs ds->Dw K H (.ref a) (.tuple ds)
inductive DwAll (K:PySem.W.Frag) (H:Hp):List V->List WData->Prop
 |nil:DwAll K H [] []
 |cons {v:V} {vs:List V} {d:WData} {ds:List WData}:Dw K H v d->DwAll K H vs ds->DwAll K H (v::vs) (d::ds)
end
theorem dw_ints {K:PySem.W.Frag} {H:Hp}:∀ns:List Int,DwAll K H (ns.map V.int) (ns.map WData.int)
 | []=> .nil
 |n::r=> .cons (.int n) (dw_ints r)
theorem ints_dw {K:PySem.W.Frag} {H:Hp}:∀(ns:List Int) (xs:List V),DwAll K H xs (ns.map WData.int)->xs=ns.map V.int
 | [],xs,h=>by
  cases h
  rfl
 |n::r,xs,h=>by
  cases h with
  |cons h1 h2=>
   cases h1
   rw [ints_dw r _ h2]<;>rfl
section
variable {P:Program} {w:World} {K:PySem.W.Frag} {H:Hp} {h:Heap} {R:PySem.W.WRecords} {cl:Str->Option Addr}
theorem sqL_at {a:Addr} {xs:List V} (hok:HOk P w H h) (KX:K.In h) (q:SqL K H a xs):∃(its:List Value) (o:Obj) (n:Nat),Vals xs its/\h.get? a=some o/\o.cls= .type "list"/\o.data= .seq its.toArray n:=by
 rcases q with q|⟨o,its,n,e,hc,_,hd,_,hv⟩
 ·obtain ⟨_,its,n,hv,e⟩:=(show ObjOk P w H h a (.lst xs) from q.ok hok)
  exact ⟨its,_,n,hv,e,rfl,rfl⟩
 ·exact ⟨its.toList,o,n,hv,KX _ _ e,hc,by simp [hd]⟩
theorem sqT_at {a:Addr} {xs:List V} (hok:HOk P w H h) (KX:K.In h) (q:SqT K H a xs):∃(its:List Value) (o:Obj) (n:Nat),Vals xs its/\h.get? a=some o/\o.cls= .type "tuple"/\o.data= .seq its.toArray n:=by
 rcases q with q|⟨o,its,n,e,hc,hd,_,hv⟩
 ·obtain ⟨_,its,hv,o,e,hc,n,hd⟩:=(show ObjOk P w H h a (.tup xs) from q.ok hok)
  exact ⟨its,o,n,hv,e,hc,hd⟩
 ·exact ⟨its.toList,o,n,hv,KX _ _ e,hc,by simp [hd]⟩
mutual
theorem Dw.reads (hok:HOk P w H h) (KX:K.In h):∀(d:WData) (v:V) (u:Value),Dw K H v d->RelV v u->∃as,ReadsW R cl h u d as
 | .none,_,_,x,r=>by
  cases x
  cases r
  exact ⟨_,ReadsW.none⟩
 | .bool b,_,_,x,r=>by
  cases x
  cases r
  exact ⟨_,ReadsW.bool b⟩
 | .int i,_,_,x,r=>by
  cases x
  obtain ⟨t,rfl⟩:=r
  exact ⟨_,ReadsW.int i t⟩
 | .str s,_,_,x,r=>by
  cases x
  obtain ⟨t,rfl⟩:=r
  exact ⟨_,ReadsW.str s t⟩
 | .bytes b,_,_,x,r=>by
  cases x
  obtain ⟨t,rfl⟩:=r
  exact ⟨_,ReadsW.bytes _ t⟩
 | .list ds,_,_,x,r=>by
  cases x with
  |lst hs ha=>
   cases r
   obtain ⟨its,o,n,rv,ho,hc,hd⟩:=sqL_at hok KX hs
   obtain ⟨as,hr⟩:=Dw.readsAll hok KX ds _ its ha rv
   exact ⟨_,ReadsW.list ho hc hd hr⟩
 | .tuple ds,_,_,x,r=>by
  cases x with
  |tup hs ha=>
   cases r
   obtain ⟨its,o,n,rv,ho,hc,hd⟩:=sqT_at hok KX hs
   obtain ⟨as,hr⟩:=Dw.readsAll hok KX ds _ its ha rv
   exact ⟨_,ReadsW.tuple ho hc hd hr⟩
 | .float _,_,_,x,_=>by cases x
 | .dict _,_,_,x,_=>by cases x
 | .bytearray _,_,_,x,_=>by cases x
 | .set _,_,_,x,_=>by cases x
 | .frozenset _,_,_,x,_=>by cases x
 | .obj _ _,_,_,x,_=>by cases x
theorem Dw.readsAll (hok:HOk P w H h) (KX:K.In h):∀(ds:List WData) (vs:List V) (us:List Value),DwAll K H vs ds->Vals vs us->∃as,ReadsAllW R cl h us ds as
 | [],_,_,x,r=>by
  cases x
  cases r
  exact ⟨_,ReadsAllW.nil⟩
 |d::ds,_,_,x,r=>by
  cases x with
  |cons h1 h2=>
   cases r with
   |cons r1 r2=>
    obtain ⟨as,q1⟩:=Dw.reads hok KX d _ _ h1 r1
    obtain ⟨bs,q2⟩:=Dw.readsAll hok KX ds _ _ h2 r2
    exact ⟨_,ReadsAllW.cons q1 q2⟩
end
end
mutual
def plW:WData->Bool
 | .none=>true
 | .bool _=>true
 | .int _=>true
 | .str _=>true
 | .bytes _=>true
 | .list xs=>plWs xs
 | .tuple xs=>plWs xs
 |_=>false
def plWs:List WData->Bool
 | []=>true
 |x::r=>plW x&&plWs r
end
theorem plWs_map {α:Type} {f:α->WData} (h:∀a,plW (f a)=true):∀l:List α,plWs (l.map f)=true
 | []=>rfl
 |x::r=>by
  show (plW (f x)&&plWs (r.map f))=true
  rw [h x,plWs_map h r]<;>rfl
theorem pl_enc:∀(c:Codec) (a:c.denote),plW (c.enc a)=true
 | .unit,_=>rfl
 | .bool,_=>rfl
 | .int _ _,_=>rfl
 | .nat _ _,_=>rfl
 | .u8,_=>rfl
 | .bytes _ _,_=>rfl
 | .text _ _ _ _,_=>rfl
 | .list _ _ c,a=>plWs_map (fun x=>pl_enc c x) a
 | .pair c d,a=>by
  show (plW (c.enc a.1)&&(plW (d.enc a.2)&&true))=true
  rw [pl_enc c a.1,pl_enc d a.2]<;>rfl
 | .triple c d e,a=>by
  show (plW (c.enc a.1)&&(plW (d.enc a.2.1)&&(plW (e.enc a.2.2)&&true)))=true
  rw [pl_enc c a.1,pl_enc d a.2.1,pl_enc e a.2.2]<;>rfl
 | .option c,none=>rfl
 | .option c,some x=>pl_enc c x
theorem pl_encAll:∀(cs:List Codec) (a:Codec.denoteAll cs),plWs (Codec.encAll cs a)=true
 | [],_=>rfl
 |c::cs,a=>by
  show (plW (c.enc a.1)&&plWs (Codec.encAll cs a.2))=true
  rw [pl_enc c a.1,pl_encAll cs a.2]<;>rfl
theorem weight_mem:∀{xs:List WData} {d:WData},d∈xs->d.weight<=WData.weightAll xs
 | [],d,h=>absurd h (by simp)
 |x::r,d,h=>by
  show d.weight<=x.weight+1+WData.weightAll r
  rcases List.mem_cons.mp h with e|m
  ·rw [e]
   omega
  ·have z:=weight_mem m
   omega
def toV:Value->V
 | .none=> .non
 | .bool b=> .bl b
 | .int i _=> .int i
 | .str x _=> .str x
 | .bytes b _=> .byt b
 | .ref a=> .ref a
 |_=> .non
def OkU (A:List Addr):Value->Prop
 | .none=>True
 | .bool _=>True
 | .int _ _=>True
 | .str _ _=>True
 | .bytes _ _=>True
 | .ref a=>a∈A
 |_=>False
theorem OkU.mono {A B:List Addr} (h:∀a∈A,a∈B):∀{u:Value},OkU A u->OkU B u:=fun {u} x=>by
 cases u with
 |ref a=>exact h a x
 |none=>trivial
 |bool b=>trivial
 |int i t=>trivial
 |str s t=>trivial
 |bytes b t=>trivial
 |_=>exact False.elim x
theorem relV_toV {A:List Addr} {u:Value} (x:OkU A u):RelV (toV u) u:=by
 cases u with
 |ref a=>rfl
 |none=>rfl
 |bool b=>rfl
 |int i t=>exact ⟨t,rfl⟩
 |str s t=>exact ⟨t,rfl⟩
 |bytes b t=>exact ⟨t,rfl⟩
 |_=>exact False.elim x
theorem vals_toV {A:List Addr}:∀{vs:List Value},(∀u∈vs,OkU A u)->Vals (vs.map toV) vs
 | [],_=> .nil
 |u::r,h=> .cons (relV_toV (h u (List.mem_cons_self ..))) (vals_toV fun x hx=>h x (List.mem_cons_of_mem _ hx))
def ArgOb (h:Heap) (A:List Addr) (a:Addr):Prop:=∃vs:List Value,vs.length<=sizeLine/\(∀u∈vs,OkU A u)/\
 (h.get? a=some {cls:= .type "list",data:= .seq vs.toArray}∨h.get? a=some {cls:= .type "tuple",data:= .seq vs.toArray})
theorem ArgOb.mono {h:Heap} {A B:List Addr} {a:Addr} (k:∀a∈A,a∈B) (x:ArgOb h A a):ArgOb h B a:=by
 obtain ⟨vs,h1,h2,h3⟩:=x
 exact ⟨vs,h1,fun u hu=>(h2 u hu).mono k,h3⟩
theorem wellAll_len {P:Params} {h:Heap}:∀{vs:List Value} {ds:List WData},WellAll P h vs ds->vs.length=ds.length
 |_,_,.nil=>rfl
 |_,_,.cons _ b=>by
  show _+1=_+1
  rw [wellAll_len b]
theorem well_list {P:Params} {h:Heap} {v:Value} {ds:List WData} (x:Well P h v (.list ds)):∃(a:Addr) (vs:List Value),v= .ref a/\h.get? a=some {cls:= .type "list",data:= .seq vs.toArray}/\WellAll P h vs ds:=by
 cases x with
 |list ho hall=>exact ⟨_,_,rfl,ho,hall⟩
theorem well_tuple {P:Params} {h:Heap} {v:Value} {ds:List WData} (x:Well P h v (.tuple ds)):∃(a:Addr) (vs:List Value),v= .ref a/\h.get? a=some {cls:= .type "tuple",data:= .seq vs.toArray}/\WellAll P h vs ds:=by
 cases x with
 |tuple ho hall=>exact ⟨_,_,rfl,ho,hall⟩
theorem well_cons {P:Params} {h:Heap} {us:List Value} {d:WData} {ds:List WData} (x:WellAll P h us (d::ds)):∃(v:Value) (vs:List Value),us=v::vs/\Well P h v d/\WellAll P h vs ds:=by
 cases x with
 |cons a b=>exact ⟨_,_,rfl,a,b⟩
theorem line_of {n:Nat} (h:n<=1048576):n<=sizeLine:=Nat.le_trans h (by decide)
section
variable {P:Params} {h:Heap}
mutual
theorem area_one:∀(d:WData) (v:Value),Well P h v d->plW d=true->d.weight<=1048576->∃A:List Addr,OkU A v/\∀a∈A,ArgOb h A a
 | .none,_,x,_,_=>by
  cases x
  exact ⟨[],trivial,fun a m=>absurd m (by simp)⟩
 | .bool b,_,x,_,_=>by
  cases x
  exact ⟨[],trivial,fun a m=>absurd m (by simp)⟩
 | .int i,_,x,_,_=>by
  cases x
  exact ⟨[],trivial,fun a m=>absurd m (by simp)⟩
 | .str s,_,x,_,_=>by
  cases x
  exact ⟨[],trivial,fun a m=>absurd m (by simp)⟩
 | .bytes b,_,x,_,_=>by
  cases x
  exact ⟨[],trivial,fun a m=>absurd m (by simp)⟩
 | .list ds,_,x,p,z=>by
  obtain ⟨a,vs,rfl,ho,hall⟩:=well_list x
  have z2:WData.weightAll ds<=1048576:=z
  obtain ⟨A,h1,h2⟩:=area_all ds _ hall p fun d hd=>Nat.le_trans (weight_mem hd) z2
  have k:∀b∈A,b∈a::A:=fun b hb=>List.mem_cons_of_mem _ hb
  refine ⟨a::A,List.mem_cons_self ..,fun b hb=>?_⟩
  rcases List.mem_cons.mp hb with e|m
  ·rw [e]
   exact ⟨vs,line_of (by rw [wellAll_len hall];exact Nat.le_trans (PySem.W.length_le_weightAllW ds) z2),fun u hu=>(h1 u hu).mono k,.inl ho⟩
  ·exact (h2 b m).mono k
 | .tuple ds,_,x,p,z=>by
  obtain ⟨a,vs,rfl,ho,hall⟩:=well_tuple x
  have z2:WData.weightAll ds<=1048576:=z
  obtain ⟨A,h1,h2⟩:=area_all ds _ hall p fun d hd=>Nat.le_trans (weight_mem hd) z2
  have k:∀b∈A,b∈a::A:=fun b hb=>List.mem_cons_of_mem _ hb
  refine ⟨a::A,List.mem_cons_self ..,fun b hb=>?_⟩
  rcases List.mem_cons.mp hb with e|m
  ·rw [e]
   exact ⟨vs,line_of (by rw [wellAll_len hall];exact Nat.le_trans (PySem.W.length_le_weightAllW ds) z2),fun u hu=>(h1 u hu).mono k,.inr ho⟩
  ·exact (h2 b m).mono k
 | .float _,_,_,p,_=>Bool.noConfusion (show false=true from p)
 | .dict _,_,_,p,_=>Bool.noConfusion (show false=true from p)
 | .bytearray _,_,_,p,_=>Bool.noConfusion (show false=true from p)
 | .set _,_,_,p,_=>Bool.noConfusion (show false=true from p)
 | .frozenset _,_,_,p,_=>Bool.noConfusion (show false=true from p)
 | .obj _ _,_,_,p,_=>Bool.noConfusion (show false=true from p)
theorem area_all:∀(ds:List WData) (vs:List Value),WellAll P h vs ds->plWs ds=true->(∀d∈ds,d.weight<=1048576)->∃A:List Addr,(∀u∈vs,OkU A u)/\∀a∈A,ArgOb h A a
 | [],_,x,_,_=>by
  cases x
  exact ⟨[],fun u m=>absurd m (by simp),fun a m=>absurd m (by simp)⟩
 |d::ds,_,x,p,z=>by
  obtain ⟨v,vs,rfl,x1,x2⟩:=well_cons x
  have q:plW d=true/\plWs ds=true:=Bool.and_eq_true_iff.mp p
  obtain ⟨A,a1,a2⟩:=area_one d v x1 q.1 (z d (List.mem_cons_self ..))
  obtain ⟨B,b1,b2⟩:=area_all ds vs x2 q.2 fun e he=>z e (List.mem_cons_of_mem _ he)
  have kA:∀b∈A,b∈A++B:=fun b hb=>List.mem_append.mpr (.inl hb)
  have kB:∀b∈B,b∈A++B:=fun b hb=>List.mem_append.mpr (.inr hb)
  refine ⟨A++B,fun u hu=>?_,fun b hb=>?_⟩
  ·rcases List.mem_cons.mp hu with e|m
   ·rw [e]
    exact a1.mono kA
   ·exact (b1 u m).mono kB
  ·rcases List.mem_append.mp hb with m|m
   ·exact (a2 b m).mono kA
   ·exact (b2 b m).mono kB
end
end
def hoOf (o:Obj):Option HO:=match o.data with
 | .seq vs _=>if (o.cls==Value.type "list")=true then some (.frz o (.lst (vs.toList.map toV))) else some (.frz o (.tup (vs.toList.map toV)))
 |_=>none
def argH (K:PySem.W.Frag) (h:Heap) (A:List Addr):Hp:=fun b=>if b∈A then (if (K.lookup b).isNone=true then (h.get? b).bind hoOf else none) else none
def OnlyF (H:Hp):Prop:=∀b,H b=none∨∃o u,H b=some (.frz o u)
theorem hoOf_lst (vs:List Value):hoOf {cls:= .type "list",data:= .seq vs.toArray}=some (.frz {cls:= .type "list",data:= .seq vs.toArray} (.lst (vs.map toV))):=by
 show (if (Value.type "list"==Value.type "list")=true then some (HO.frz {cls:= .type "list",data:= .seq vs.toArray} (.lst (vs.toArray.toList.map toV))) else some (HO.frz {cls:= .type "list",data:= .seq vs.toArray} (.tup (vs.toArray.toList.map toV))))=_
 rw [if_pos (beq_self_eq_true _)]
theorem hoOf_tup (vs:List Value):hoOf {cls:= .type "tuple",data:= .seq vs.toArray}=some (.frz {cls:= .type "tuple",data:= .seq vs.toArray} (.tup (vs.map toV))):=by
 show (if (Value.type "tuple"==Value.type "list")=true then some (HO.frz {cls:= .type "tuple",data:= .seq vs.toArray} (.lst (vs.toArray.toList.map toV))) else some (HO.frz {cls:= .type "tuple",data:= .seq vs.toArray} (.tup (vs.toArray.toList.map toV))))=_
 rw [if_neg (by decide)]
section
variable {P:Program} {w:World} {K:PySem.W.Frag} {h:Heap} {A:List Addr}
theorem argH_at {b:Addr} {o:Obj} (hb:b∈A) (hk:K.lookup b=none) (e:h.get? b=some o):argH K h A b=hoOf o:=by
 unfold argH
 rw [if_pos hb,hk,if_pos (show (none:Option Obj).isNone=true from rfl),e]<;>rfl
theorem of_argH {b:Addr} {u:HO} (q:argH K h A b=some u):b∈A/\K.lookup b=none:=by
 unfold argH at q
 by_cases hb:b∈A
 ·rw [if_pos hb] at q
  cases hk:K.lookup b with
  |none=>exact ⟨hb,rfl⟩
  |some o=>
   rw [hk,if_neg (by simp)] at q
   cases q
 ·rw [if_neg hb] at q
  cases q
theorem argH_is (ar : ∀ a ∈ A, ArgOb h A a) {b : Addr} {u : HO} (q : argH K h A b = some u) : K.lookup b = none /\ ∃ vs : List Value, vs.length <= sizeLine /\ (∀ u ∈ vs, OkU A u) /\
    ((h.get? b = some { cls := .type "list", data := .seq vs.toArray } /\ u = .frz { cls := .type "list", data := .seq vs.toArray } (.lst (vs.map toV))) ∨
     (h.get? b = some { cls := .type "tuple", data := .seq vs.toArray } /\ u = .frz { cls := .type "tuple", data := .seq vs.toArray } (.tup (vs.map toV)))) := by
  obtain ⟨hb, hk⟩ := of_argH q
  obtain ⟨vs, h1, h2, h3⟩ := ar b hb
  refine ⟨hk, vs, h1, h2, ?_⟩
  rcases h3 with e | e
  · rw [argH_at hb hk e, hoOf_lst] at q
    exact .inl ⟨e, (Option.some.inj q).symm⟩
  · rw [argH_at hb hk e, hoOf_tup] at q
    exact .inr ⟨e, (Option.some.inj q).symm⟩
theorem argH_only (ar:∀a∈A,ArgOb h A a):OnlyF (argH K h A):=fun b=>by
 cases q:argH K h A b with
 |none=>exact .inl rfl
 |some u=>
  obtain ⟨_,vs,_,_,⟨_,e⟩|⟨_,e⟩⟩:=argH_is ar q
  ·exact .inr ⟨_,_,by rw [e]⟩
  ·exact .inr ⟨_,_,by rw [e]⟩
theorem argH_ok (ar:∀a∈A,ArgOb h A a):HOk P w (argH K h A) h:=fun b u q=>by
 obtain ⟨_,vs,h1,h2,⟨e,rfl⟩|⟨e,rfl⟩⟩:=argH_is ar q
 ·exact ⟨e,by rw [List.length_map];exact h1,vs,_,vals_toV h2,e⟩
 ·exact ⟨e,by rw [List.length_map];exact h1,vs,vals_toV h2,_,e,rfl,_,rfl⟩
theorem seq_inj {c c':Value} {vs us:List Value} (e:(some {cls:=c,data:= .seq vs.toArray}:Option Obj)=some {cls:=c',data:= .seq us.toArray}):c=c'/\vs=us:=by
 have e1:=Option.some.inj e
 have e2:c=c':=congrArg Obj.cls e1
 have e3:Data.seq vs.toArray=Data.seq us.toArray:=congrArg Obj.data e1
 injection e3 with e4
 refine ⟨e2,?_⟩
 have e5:=congrArg Array.toList e4
 simpa using e5
theorem argL (KX:K.In h) (ar:∀a∈A,ArgOb h A a) {a:Addr} {vs:List Value} (ha:a∈A) (e:h.get? a=some {cls:= .type "list",data:= .seq vs.toArray}):(∀u∈vs,OkU A u)/\SqL K (argH K h A) a (vs.map toV):=by
 obtain ⟨us,h1,h2,h3⟩:=ar a ha
 have hu:us=vs:=by
  rcases h3 with q|q
  ·rw [e] at q
   exact (seq_inj q).2.symm
  ·rw [e] at q
   exact absurd (Value.type.inj (seq_inj q).1) (by decide)
 subst hu
 refine ⟨h2,?_⟩
 cases hk:K.lookup a with
 |none=>exact .inl (.inr ⟨_,by rw [argH_at ha hk e,hoOf_lst]⟩)
 |some o=>
  have e2:=KX a o hk
  rw [e] at e2
  obtain rfl:=Option.some.inj e2
  exact .inr ⟨_,us.toArray,_,hk,rfl,rfl,rfl,by rw [List.size_toArray];exact h1,by simpa using vals_toV h2⟩
theorem argT (KX:K.In h) (ar:∀a∈A,ArgOb h A a) {a:Addr} {vs:List Value} (ha:a∈A) (e:h.get? a=some {cls:= .type "tuple",data:= .seq vs.toArray}):(∀u∈vs,OkU A u)/\SqT K (argH K h A) a (vs.map toV):=by
 obtain ⟨us,h1,h2,h3⟩:=ar a ha
 have hu:us=vs:=by
  rcases h3 with q|q
  ·rw [e] at q
   exact absurd (Value.type.inj (seq_inj q).1) (by decide)
  ·rw [e] at q
   exact (seq_inj q).2.symm
 subst hu
 refine ⟨h2,?_⟩
 cases hk:K.lookup a with
 |none=>exact .inl (.inr ⟨_,by rw [argH_at ha hk e,hoOf_tup]⟩)
 |some o=>
  have e2:=KX a o hk
  rw [e] at e2
  obtain rfl:=Option.some.inj e2
  exact .inr ⟨_,us.toArray,_,hk,rfl,rfl,by rw [List.size_toArray];exact h1,by simpa using vals_toV h2⟩
mutual
theorem dw_one {Pm:Params} (KX:K.In h) (ar:∀a∈A,ArgOb h A a):∀(d:WData) (v:Value),Well Pm h v d->plW d=true->OkU A v->Dw K (argH K h A) (toV v) d
 | .none,_,x,_,_=>by
  cases x
  exact .non
 | .bool b,_,x,_,_=>by
  cases x
  exact .bl b
 | .int i,_,x,_,_=>by
  cases x
  exact .int i
 | .str s,_,x,_,_=>by
  cases x
  exact .str s
 | .bytes b,_,x,_,_=>by
  cases x
  have z:=Dw.byt (K:=K) (H:=argH K h A) b.toArray
  exact z
 | .list ds,_,x,p,hu=>by
  obtain ⟨a,vs,rfl,ho,hall⟩:=well_list x
  obtain ⟨h2,hs⟩:=argL KX ar hu ho
  exact .lst hs (dw_all KX ar ds _ hall p h2)
 | .tuple ds,_,x,p,hu=>by
  obtain ⟨a,vs,rfl,ho,hall⟩:=well_tuple x
  obtain ⟨h2,hs⟩:=argT KX ar hu ho
  exact .tup hs (dw_all KX ar ds _ hall p h2)
 | .float _,_,_,p,_=>Bool.noConfusion (show false=true from p)
 | .dict _,_,_,p,_=>Bool.noConfusion (show false=true from p)
 | .bytearray _,_,_,p,_=>Bool.noConfusion (show false=true from p)
 | .set _,_,_,p,_=>Bool.noConfusion (show false=true from p)
 | .frozenset _,_,_,p,_=>Bool.noConfusion (show false=true from p)
 | .obj _ _,_,_,p,_=>Bool.noConfusion (show false=true from p)
theorem dw_all {Pm:Params} (KX:K.In h) (ar:∀a∈A,ArgOb h A a):∀(ds:List WData) (vs:List Value),WellAll Pm h vs ds->plWs ds=true->(∀u∈vs,OkU A u)->DwAll K (argH K h A) (vs.map toV) ds
 | [],_,x,_,_=>by
  cases x
  exact .nil
 |d::ds,_,x,p,hu=>by
  obtain ⟨v,vs,rfl,x1,x2⟩:=well_cons x
  have q:plW d=true/\plWs ds=true:=Bool.and_eq_true_iff.mp p
  exact .cons (dw_one KX ar d v x1 q.1 (hu _ (List.mem_cons_self ..))) (dw_all KX ar ds vs x2 q.2 fun u m=>hu u (List.mem_cons_of_mem _ m))
end
end
theorem spec_call {P:Program} {w:World} {K:PySem.W.Frag} {mg mb:Str->Option Value} {CX:CXT} {k:Nat} {fa:Addr} {fd:FuncData} {ps:List Str} {sp:Sp} {s₁:Shared} {vals:List Value} {ds:List WData} {R:PySem.W.WRecords} {cl:Str->Option Addr} {d0:WData}
  (KX:K.In s₁.heap) (hns:s₁.heap.Ns mainGlobals mg) (hb:s₁.heap.Ns builtinsNs mb) (hbb:∀x:Str,x≠ "__name__"->mb x=bootBuiltins x) (hlim:s₁.heap.NoLimit) (hg:s₁.gens= #[])
  (hwl:WellAll w.params s₁.heap vals ds) (hpl:plWs ds=true) (hwt:∀d∈ds,d.weight<=1048576) (hr:Room k callerA)
  (F:∀base:Heap,K.In base->base.Ns mainGlobals mg->FnOk P w K mg base CX k fa fd ps sp) (hbind:∀(s:Shared) (us:List Value),us.length=ps.length->BindsTo s fd ⟨us,[]⟩ (ps.zip us)) (hlen:ds.length=ps.length)
  (hsp:∀(H:Hp) (xs:List V),OnlyF H->DwAll K H xs ds->sp xs H (fun v H'=>Dw K H' v d0) fun _ _ _=>False)
  (hCX:∀H e s',CX [] H s₁ (fun _ _ _=>False) e s'->False):
  codeAny (model P w) callerA (.call (.ref fa) ⟨vals,[]⟩) (fun r s'=>∃u as,r= .ok (.ret u)/\ReadsW R cl s'.heap u d0 as/\OldK s₁.heap s'.heap/\s'.os=s₁.os/\AllBare s'.gens) s₁:=by
 obtain ⟨A,ho,ar⟩:=area_all ds vals hwl hpl hwt
 have hO:OnlyF (argH K s₁.heap A):=argH_only ar
 have hok:HOk P w (argH K s₁.heap A) s₁.heap:=argH_ok ar
 have hS:=dw_all KX ar ds vals hwl hpl ho
 have hV:=vals_toV ho
 have hK:∀b u,argH K s₁.heap A b=some u->K.lookup b=none:=fun b u q=>(argH_is ar q).1
 have noA:∀{b:Addr} {o:Obj} {es:Array DictEntry} {ep:Nat},s₁.heap.get? b=some o->o.data= .dict es ep->argH K s₁.heap A b=none:=fun {b o es ep} e d=>by
  cases q:argH K s₁.heap A b with
  |none=>rfl
  |some u=>
   obtain ⟨_,vs,_,_,⟨e2,_⟩|⟨e2,_⟩⟩:=argH_is ar q
   ·rw [e2] at e
    cases e
    have d':Data.seq vs.toArray _=Data.dict es ep:=d
    cases d'
   ·rw [e2] at e
    cases e
    have d':Data.seq vs.toArray _=Data.dict es ep:=d
    cases d'
 generalize argH K s₁.heap A=H at hO hok hS hK noA
 have base_of:∀{b:Addr} {o:Obj},s₁.heap.get? b=some o->H b=none->(hidT s₁.heap H).get? b=some o:=fun e n=>hidT_get e n
 have nsK:∀{b:Addr} {m:Str->Option Value},s₁.heap.Ns b m->(hidT s₁.heap H).Ns b m:=fun {b m} ⟨o,es,ep,e,d,r⟩=>⟨o,es,ep,base_of e (noA e d),d,r⟩
 have nK:∀b o,K.lookup b=some o->H b=none:=fun b o e=>by
  cases q:H b with
  |none=>rfl
  |some u=>
   rw [hK b u q] at e
   cases e
 have hKb:K.In (hidT s₁.heap H):=fun b o e=>base_of (KX b o e) (nK b o e)
 have hM:Mod K mg (hidT s₁.heap H):=⟨hKb,nsK hns,⟨mb,nsK hb,hbb⟩,let ⟨mc,h1,h2⟩:=hlim;⟨mc,nsK h1,h2⟩⟩
 have e0:Env0 P w K mg (hidT s₁.heap H) callerA [] s₁ H:=⟨rfl,hM,fun b o e=>of_hidT e,Nat.le_of_eq (hidT_size _ _),trivial,fun b hb=>absurd (show b∈([]:List Addr) from hb) (by simp),hok,.of_eq hg⟩
 have hl:vals.length=ps.length:=by rw [wellAll_len hwl];exact hlen
 refine codeAny_mono ((F _ hKb (nsK hns)).run callerA [] s₁ H ⟨vals,[]⟩ vals (vals.map toV) _ _ hr e0 (hbind s₁ vals hl) hV (hsp H _ hO hS)) fun r s' x=>?_
 cases r with
 |error e=>exact (hCX H e s' x).elim
 |ok fl=>
  cases fl with
  |next=>exact False.elim x
  |brk=>exact False.elim x
  |cont=>exact False.elim x
  |ret u=>
   obtain ⟨v,H',os,bare,un,hok',r',q⟩:=x
   have kept:∀b o,s₁.heap.get? b=some o->s'.heap.get? b=some o:=fun b o e=>by
    cases q2:H b with
    |none=>exact un.keep b o e q2 (by intro z;exact absurd (show b∈([]:List Addr) from z) (by simp)) (by simp)
    |some u2=>
     rcases hO b with z|⟨ob,u3,z⟩
     ·rw [q2] at z
      cases z
     ·have z2:=un.frzs b ob _ z
      obtain ⟨e1,_⟩:=hok b _ z
      obtain ⟨e2,_⟩:=hok' b _ z2
      rw [e] at e1
      cases e1
      exact e2
   have KX':K.In s'.heap:=fun b o e=>kept b o (KX b o e)
   obtain ⟨as,hrd⟩:=Dw.reads (R:=R) (cl:=cl) hok' KX' d0 v u q r'
   exact ⟨u,as,rfl,hrd,OldK.of_keep kept,os,bare⟩
theorem layable_weight {ds:List WData} (h:WData.layableAll ds=true):∀d∈ds,d.weight<=1048576:=fun d hd=>
 (PySem.W.layableW_iff.mp (List.all_eq_true.mp h d hd)).2.2
theorem encAll_len:∀(cs:List Codec) (a:Codec.denoteAll cs),(Codec.encAll cs a).length=cs.length
 | [],_=>rfl
 |c::cs,a=>by
  show (Codec.encAll cs a.2).length+1=cs.length+1
  rw [encAll_len cs a.2]
theorem walk_spec {r : OpenSpec} {k : Nat} {q : Program} {loose : List Str} {XP : (Str -> Option Value) -> Heap -> Prop} {YP : World -> Heap -> Prop} {d : DefRec} {K : Params -> PySem.W.Frag} {CX : World -> CXT} {ps : List Str} {sp : World -> Sp}
  (hwell : r.wellSaid = true) (hdf : d.params.defaults = []) (hlen : r.args.length = ps.length) (hr : Room k callerA)
  (hY : ∀ (w : World) (h : Heap), YP w h -> (K w.params).In h)
  (F : ∀ (w : World) (mg : Str -> Option Value) (fa : Addr) (h : Heap), YP w h -> (K w.params).In h -> h.Ns mainGlobals mg -> mg d.name = some (.ref fa) ->
   ∃ fd : FuncData, (∀ (s : Shared) (us : List Value), us.length = ps.length -> BindsTo s fd ⟨us, []⟩ (ps.zip us)) /\
    ∀ base : Heap, (K w.params).In base -> base.Ns mainGlobals mg -> FnOk r.prog w (K w.params) mg base (CX w) k fa fd ps (sp w))
  (hsp : ∀ (w : World) (H : Hp) (xs : List V) (a : Codec.denoteAll r.args), OnlyF H -> Codec.withinAll r.args a = true -> Codec.app r.args r.asked a = true -> DwAll (K w.params) H xs (Codec.encAll r.args a) ->
   sp w xs H (fun v H' => Dw (K w.params) H' v (r.ret.enc (Codec.app r.args r.f a))) fun _ _ _ => False)
  (hCX : ∀ (w : World) (H : Hp) (s : Shared) (e : Value) (s' : Shared), CX w [] H s (fun _ _ _ => False) e s' -> False) :
  PySem.W.WalkOS q loose XP YP r d [] (fun f vs => PySem.call f vs) := by
 intro w s_0 s₁ mg mb G Y fa o pm cd doc dV kV ho hd hcd hD hmg hg args vals as hpre hlay hrd hwl hlo
 obtain ⟨a, e1, e2⟩ := PySem.W.os_pre_some hpre
 obtain ⟨e3, hwi⟩ := Codec.encAll_of_decAll r.args args a e1
 subst e3
 have KX := hY w _ Y
 obtain ⟨fd, hb, hF⟩ := F w mg fa _ Y KX G.T.g hmg
 refine PySem.W.enter_call (codeAny_mono (spec_call (R := []) (cl := classAt s_0.heap) (d0 := r.ret.enc (Codec.app r.args r.f a)) KX G.T.g G.T.b G.T.builtins G.T.nolimit hg hwl (pl_encAll _ _) (layable_weight hlay) hr hF hb (by rw [encAll_len]; exact hlen)
  (fun H xs hO hS => hsp w H xs a hO hwi e2 hS) fun H e s' => hCX w H s₁ e s') fun r' s' hq => ?_)
 obtain ⟨u, as', rfl, h1, h2, h3, h4⟩ := hq
 exact ⟨.inl ⟨u, _, as', rfl, fun _ => rfl, h1, (OpenSpec.post_iff hwell hwi _ _).mpr rfl, fun z => Bool.noConfusion (show false = true from z)⟩, h2, h3, h4⟩
end L2
-- rests on (row put in by the clerk, for the bench that shows a file only what it spells): KE.SpHead KE.OsShapes
end
namespace XL
open PySem
section
variable {M:Model} {A:Around} {E:Value->Shared->Prop} {env:Env}
variable {nm q:Str} {C N:Addr} {bs bm:List Value} {hdct:Bool} {sn:List Str} {sub:List Value} {ab:Bool} {col:Option Bool} {dd:Option Addr} {k0 k1 k2 k3 k5:Option Value} {newId:String}
theorem raise_own {s : Shared} {x : Sem Value} {Q : Flow -> Shared -> Prop} (hbase : bm.contains (.type "BaseException") = true) (hh : A.handled = none)
  (h : wpAny M A x (fun v s1 => ∃ e oe vs, v = .ref e /\ s1.heap.get? C = some (excClassObj nm q C N bs bm hdct sn sub ab col dd k0 k1 k2 k3 k5 newId) /\
   s1.heap.get? e = some oe /\ oe.cls = .ref C /\ oe.data = .fields vs /\ vs[1]? = some .none /\ E (.ref e) s1) E s) :
  wpAny M A (raiseStmt env (some x) none) Q E s := by
 have inB : (Value.ref C :: bm).contains (.type "BaseException") = true := by rw [List.contains_cons, hbase, Bool.or_true]
 unfold raiseStmt
 refine wpAny_bind (wpAny_mono h (fun v s1 h1 => ?_) fun _ _ x => x)
 obtain ⟨e, oe, vs, rfl, hC, he, hc, hd, h1, hE⟩ := h1
 obtain ⟨hp, g, d, tk, os⟩ := s1
 repeat (first | (with_reducible refine wpAny_loadPart_at he ?_; rw [hc]) | with_reducible refine wpAny_loadPart_at he ?_ | with_reducible refine wpAny_loadPart_at hC ?_ | (with_reducible refine wpAny_isSubtype_exc hC ?_; rw [inB]) | wp_step)
 rw [hd]
 refine wpAny_pure ?_
 rw [h1]
 refine wpAny_pure ?_
 rw [if_neg (by decide)]
 exact wpAny_pure (wpAny_raiseNew_none hh hE)
end
section
variable {M:Model} {A:Around} {E:Value->Shared->Prop} {h:Heap} {g:Array GenState} {d:Drawn} {t:Nat} {os:OsState}
theorem fits_own {C D N N':Addr} {nm q nm' q':Str} {bs bm bs' bm':List Value} {hd hd' ab ab':Bool} {sn sn':List Str} {sub sub':List Value} {col col':Option Bool} {dd dd':Option Addr} {k0 k1 k2 k3 k5 j0 j1 j2 j3 j5:Option Value} {newId newId':String}
  {e:Addr} {oe:Obj} {Q:Bool->Shared->Prop} (hC:h.get? C=some (excClassObj nm q C N bs bm hd sn sub ab col dd k0 k1 k2 k3 k5 newId)) (hD:h.get? D=some (excClassObj nm' q' D N' bs' bm' hd' sn' sub' ab' col' dd' j0 j1 j2 j3 j5 newId'))
  (he:h.get? e=some oe) (hc:oe.cls= .ref C) (hbase:bm'.contains (.type "BaseException")=true) (hq:Q ((Value.ref C::bm).contains (.ref D)) ⟨h,g,d,t,os⟩):wpAny M A (excMatches (.ref e) (.ref D)) Q E ⟨h,g,d,t,os⟩:=by
 have inB:(Value.ref D::bm').contains (.type "BaseException")=true:=by rw [List.contains_cons,hbase,Bool.or_true]
 have nt:=tc_notTuple
 unfold excMatches
 repeat (first|(with_reducible refine wpAny_loadPart_at he ?_;rw [hc])|with_reducible refine wpAny_loadPart_at hD ?_|(with_reducible refine wpAny_isSubtype_exc hD ?_;rw [inB])|with_reducible refine wpAny_isSubtype_exc hC ?_|wp_step)
 cases hb:(Value.ref C::bm).contains (.ref D)<;>(rw [hb] at hq;wp_walk;exact hq)
end
end XL
namespace XL
open PySem PySem.Builtin PySem.Builtin.ObjectAttr
section
variable {prog:Program} {w:World} {A:Around} {E:Value->Shared->Prop} {h:Heap} {g:Array GenState} {d:Drawn} {t:Nat} {os:OsState}
variable {nm q:Str} {C N x:Addr} {bs bm:List Value} {sn:List Str} {sub:List Value} {ab:Bool} {col:Option Bool} {dd:Option Addr} {k0 k1 k2 k3 k5:Option Value} {B newId sa owner:String}
 {mN:Str->Option Value} {name:Str} {v:Value}
structure First (h h':Heap) (x dx:Addr) (o:Obj) (name:Str) (v:Value):Prop where
 new:h.objs.size=dx
 obj:h'.get? x=some {o with dict:=some dx}
 ns:h'.Ns1 dx (fun y=>if y=name then some v else Option.none)
 keep:∀b ob,b≠x->h.get? b=some ob->h'.get? b=some ob
theorem first_entry {tk:Tok} {Q:Fin->Shared->Prop} {o:Obj} (SF:StoreFacts B bm sa owner)
  (hC:h.get? C=some (excClassObj nm q C N bs bm true sn sub ab col dd k0 k1 k2 k3 k5 newId)) (hn:h.Ns N mN) (hna:mN name=none)
  (hB:typeLookup (.type B) name=pure none) (hx:h.get? x=some o) (hc:o.cls= .ref C) (hnc:∀c,o.data≠ .cls c) (hdn:o.dict=none)
  (hq:∀h' tk' dx,First h h' x dx o name v->Q (.done (.ret .none)) ⟨h',g,d,tk',os⟩):
  wpAny (model prog w) A (Builtin.«object.__setattr__» ⟨[.ref x,.str name tk,v],[]⟩) Q E ⟨h,g,d,t,os⟩:=by
 have pas:=SF.passes (.ref x)
 unfold Builtin.«object.__setattr__»
 repeat (first|rw [refuse_eq] |(rw [refuseLoop_ref,pas])|(with_reducible refine wpAny_loadPart_at hx ?_;rw [hc])|with_reducible refine wpAny_mroOf_exc hC ?_|(with_reducible refine wpAny_typeLookup_exc hC hn SF.mro hB ?_;rw [hna])|wp_step)
 rw [hdn,if_neg (by simp [typeHasDict])]
 split
 ·rename_i z
  cases z
 split
 ·rename_i c z
  exact absurd z (hnc c)
 have lx:x≠h.objs.size:=Nat.ne_of_lt (Heap.lt_size hx)
 have x1:=Heap.get?_push_of_some {cls:= .type "dict",data:= .dict #[]} hx
 refine wpAny_bind (wpAny_alloc' (wpAny_bind (wpAny_update' x1 (wpAny_pure ?_))))
 generalize hg:Heap.update (h.push {cls:= .type "dict",data:= .dict #[]}) x _=h1
 have alive:o.isFreed=false:=(Heap.get?_some_iff.mp hx).2
 have gx:h1.get? x=some {o with dict:=some h.objs.size}:=by
  rw [←hg]
  refine Heap.get?_update_self _ x1 ?_
  obtain ⟨oc,od,odt,osl⟩:=o
  cases odt<;>first|rfl|exact alive
 have gd:h1.get? h.objs.size=some {cls:= .type "dict",data:= .dict #[]}:=by
  rw [←hg,Heap.get?_update_ne _ _ _ _ lx.symm]
  exact Heap.get?_push_at rfl rfl
 have gk:∀b ob,b≠x->h.get? b=some ob->h1.get? b=some ob:=fun b ob nb hb=>by
  rw [←hg,Heap.get?_update_ne _ _ _ _ nb]
  exact Heap.get?_push_of_some _ hb
 have nd:h1.Ns h.objs.size (fun _=>none):=⟨_, #[],_,gd,rfl,fun e he=>absurd he (by simp),fun _=>rfl⟩
 show wpAny _ _ (storeInDict h.objs.size (.str name tk) name v) _ _ _
 unfold storeInDict newKeyGuard
 refine wpAny_bind (wpAny_pure (wpAny_bind (wpAny_nsSet1 (Heap.Ns1.of_empty nd) fun h2 n2 same=>?_)))
 obtain ⟨oD,esD,epD,aD,bD,cD⟩:=n2.count (Within.cons name v Within.nil)
 have small:esD.size<=sizeLine+1:=Nat.le_trans cD (by rw [List.length_cons,List.length_nil,sizeLine_eq];omega)
 refine wpAny_bind (wpAny_lookBehind aD (by rw [bD];exact pastItsLine_dict small) ?_)
 wp_walk
 exact hq h2 _ h.objs.size ⟨rfl,(same.2 x lx).trans gx,n2,fun b ob nb hb=>(same.2 b (Nat.ne_of_lt (Heap.lt_size hb))).trans (gk b ob nb hb)⟩
theorem first_attr {Q:Unit->Shared->Prop} {o:Obj} (SF:StoreFacts B bm sa owner)
  (hC:h.get? C=some (excClassObj nm q C N bs bm true sn sub ab col dd k0 k1 k2 k3 k5 newId)) (hn:h.Ns N mN) (hns:mN "__setattr__"=none) (hna:mN name=none)
  (hB:typeLookup (.type B) name=pure none) (hx:h.get? x=some o) (hc:o.cls= .ref C) (hnc:∀c,o.data≠ .cls c) (hdn:o.dict=none)
  (hq:∀h' tk' dx,First h h' x dx o name v->Q () ⟨h',g,d,tk',os⟩):
  wpAny (model prog w) A (setAttr (.ref x) name v) Q E ⟨h,g,d,t,os⟩:=by
 have f3:=SF.slot.bind (.ref x)
 unfold setAttr callSpecial? specialOf
 repeat (any_goals (first|assumption|(with_reducible refine wpAny_loadPart_at hx ?_;rw [hc])|(with_reducible refine wpAny_typeLookup_exc hC hn SF.mro SF.slot.lookup ?_;rw [hns])|wp_step))
 refine codeAny_call_builtin SF.slot.plain SF.entry (wpAny_check_sa SF hC hx hc (first_entry SF hC hn hna hB hx hc hnc hdn fun h' tk' dx f=>?_))
 repeat (any_goals (first|assumption|wp_step))
 exact hq h' tk' dx f
end
end XL
namespace XL
open PySem
structure Fly (hs h:Heap) (H:L2.Hp) (a C dx:Addr) (T:Option Addr):Prop where
 obj:∃oe vs,h.get? a=some oe/\oe.cls= .ref C/\oe.dict=some dx/\oe.data= .fields vs/\vs[1]? =some (match T with|none=>Value.none|some b=> .ref b)
 new:hs.get? a=none
 free:H a=none
 tb:∀b,T=some b->b≠a/\hs.get? b=none/\H b=none/\∃oT ts,h.get? b=some oT/\oT.data= .fields ts/\ts[3]? =some Value.none
structure Kept (fs:List Addr) (a:Addr) (T:Option Addr) (h h':Heap):Prop where
 keep:∀b o,h.get? b=some o->b∉fs->b≠a->(∀c,T=some c->b≠c)->h'.get? b=some o
 slot:∀b o,h.get? b=some o->b∈fs->∃sl,h'.get? b=some {o with slots:=sl}
 there:∀b o,h.get? b=some o->∃o',h'.get? b=some o'
section
variable {M:Model} {A:Around} {E:Value->Shared->Prop} {s:Shared}
theorem entry_own {base : Heap} {env : Env} {outer : List Env} {L e : Addr} {oe : Obj} {vs : Array Value} {head : Value} {hadNext : Bool} {Q : Unit -> Shared -> Prop}
  (hfr : A.frames = some (env :: outer)) (hl : s.heap.FunFrames base (env :: outer)) (hf : env.frame = some L)
  (he : s.heap.get? e = some oe) (hd : oe.data = .fields vs) (hsz : 1 < vs.size)
  (h : ∀ h' T oe' vs' oT ts, Kept (L2.frs (env :: outer)) e none s.heap h' -> T = s.heap.objs.size -> h'.get? e = some oe' -> oe'.cls = oe.cls -> oe'.dict = oe.dict -> oe'.data = .fields vs' -> vs'[1]? = some (.ref T) ->
   h'.get? T = some oT -> oT.data = .fields ts -> ts[3]? = some Value.none -> Q () { s with heap := h' }) :
  wpAny M A (do let a ← frameOf env; let pl ← entryPlaceOf L hadNext; let b ← EntryCells.newEntry head a .none (rawInt L) .none pl; setField (.ref e) 1 b) (fun _ s' => wpAny M A (setFlight (.ref e) none) Q E s') E s := by
 have ne : e ∉ L2.frs (env :: outer) := fun hm => by
  obtain ⟨_, o, ho, hnf⟩ := hl.mem hm
  rw [he] at ho
  exact hnf vs (by rw [← Option.some.inj ho]; exact hd)
 refine wpAny_bind (wpAny_frameOf_fun hfr hl hf fun h1 hs1 => ?_)
 obtain ⟨z1, z2, z3⟩ := hs1
 refine wpAny_bind (wpAny_entryPlaceOf fun pl hpl => ?_)
 unfold EntryCells.newEntry newFields
 refine wpAny_bind (wpAny_newObj_type ?_ (hpl.sizeOk5 _ _ _ _ _))
 generalize hxs : ([head, .ref L, .none, rawInt L, .none] ++ (if pl.isEmpty then List.replicate 6 Value.none else pl)).toArray = xs
 have x3 : 3 < xs.size := by rw [← hxs]; simp only [List.size_toArray, List.length_append, List.length_cons, List.length_nil]; omega
 have e1 : h1.get? e = some oe := (z2 e ne).trans he
 have e2 := Heap.get?_push_of_some (h := h1) { cls := .type "traceback", dict := none, data := .fields xs } e1
 have nT : h1.objs.size ≠ e := Nat.ne_of_gt (Heap.lt_size e1)
 refine wpAny_setField e2 hd hsz ?_
 have d3 := Obj.data_mapFields hd (·.setIfInBounds 1 (Value.ref h1.objs.size))
 have e3 := Heap.get?_update_self (Obj.mapFields (·.setIfInBounds 1 (Value.ref h1.objs.size))) e2 (Obj.isFreed_of_fields d3)
 have t3 := (Heap.get?_update_other (h1.push { cls := .type "traceback", dict := none, data := .fields xs }) (Obj.mapFields (·.setIfInBounds 1 (Value.ref h1.objs.size))) nT.symm).trans (Heap.get?_push_size h1 rfl)
 unfold setFlight
 refine wpAny_bind (wpAny_field e3 d3 (x := .ref h1.objs.size) (by simp [hsz]) ?_)
 rw [if_pos (show (Value.ref h1.objs.size != Value.none) = true by simp)]
 refine wpAny_setField t3 rfl x3 ?_
 have dT := Obj.data_mapFields (o := { cls := .type "traceback", dict := none, data := .fields xs }) rfl (·.setIfInBounds 3 ((none : Option Addr).elim Value.none fun f => rawInt f))
 have kp : ∀ b o, b ≠ e -> h1.get? b = some o -> (((h1.push { cls := .type "traceback", dict := none, data := .fields xs }).update e (Obj.mapFields (·.setIfInBounds 1 (Value.ref h1.objs.size)))).update h1.objs.size
   (Obj.mapFields (·.setIfInBounds 3 ((none : Option Addr).elim Value.none fun f => rawInt f)))).get? b = some o := fun b o nb hb => by
  rw [Heap.get?_update_other _ _ (Nat.ne_of_gt (Heap.lt_size hb)), Heap.get?_update_other _ _ nb.symm]
  exact Heap.get?_push_of_some _ hb
 have dk : ∀ f : Array Value -> Array Value, (oe.mapFields f).dict = oe.dict := fun f => by
  obtain ⟨c, d, dt, sl⟩ := oe
  cases dt <;> rfl
 refine h _ h1.objs.size _ _ _ _ ⟨fun b o hb nf nb _ => kp b o nb ((z2 b nf).trans hb), fun b o hb hm => ?_, fun b o hb => ?_⟩ ?_ ((Heap.get?_update_other _ _ nT).trans e3) (Obj.cls_mapFields _ _) (dk _) d3 (by simp [hsz]) (Heap.get?_update_self _ t3 (Obj.isFreed_of_fields dT)) dT (by simp [x3])
 ·obtain ⟨sl, hsl⟩ := z3 b o hb
  exact ⟨sl, kp b _ (fun q => ne (q ▸ hm)) hsl⟩
 ·by_cases q : b = e
  ·subst q
   exact ⟨_, (Heap.get?_update_other _ _ nT).trans e3⟩
  ·obtain ⟨sl, hsl⟩ := z3 b o hb
   exact ⟨_, kp b _ q hsl⟩
 ·exact z1
theorem note_own {base hs:Heap} {H:L2.Hp} {env:Env} {outer:List Env} {L a C dx:Addr} {T:Option Addr} {Q:Unit->Shared->Prop}
  (hfr:A.frames=some (env::outer)) (hl:s.heap.FunFrames base (env::outer)) (hf:env.frame=some L) (F:Fly hs s.heap H a C dx T)
  (hn:∀b,s.heap.objs.size<=b->hs.get? b=none/\H b=none)
  (h:∀h' T',Kept (L2.frs (env::outer)) a T s.heap h'->Fly hs h' H a C dx (some T')->Q () {s with heap:=h'}):
  wpAny M A (noteFrame (.ref a) env) (fun _ s'=>wpAny M A (setFlight (.ref a) none) Q E s') E s:=by
 obtain ⟨oe,vs,he,hc,hdx,hd,h1⟩:=F.obj
 have sz:=(Array.getElem?_eq_some_iff.mp h1).1
 unfold noteFrame
 simp only [hf]
 refine wpAny_bind (wpAny_field he hd h1 ?_)
 cases T with
 |none=>
  rw [if_neg (by decide)]
  refine entry_own hfr hl hf he hd sz fun h' T oe' vs' oT ts k n1 g1 g2 g3 g4 g5 g6 g7 g8=>?_
  obtain ⟨m1,m2⟩:=hn T (Nat.le_of_eq n1.symm)
  refine h h' T ⟨fun b o hb nf nb _=>k.keep b o hb nf nb (fun c z=>nomatch z),k.slot,k.there⟩ ⟨⟨oe',vs',g1,g2.trans hc,g3.trans hdx,g4,g5⟩,F.new,F.free,fun b eb=>?_⟩
  cases eb
  exact ⟨(fun q=>absurd (Heap.lt_size he) (by rw [←q,n1];exact Nat.lt_irrefl _)),m1,m2,oT,ts,g6,g7,g8⟩
 |some tb=>
  obtain ⟨nta,nts,ntH,oT0,ts0,hT,hdT,h3⟩:=F.tb tb rfl
  rw [if_pos (show (Value.ref tb !=Value.none)=true by simp)]
  refine wpAny_bind (wpAny_field hT hdT h3 ?_)
  rw [if_neg (show ¬((Value.none==rawInt L)=true) by simp [rawInt])]
  refine wpAny_bind (wpAny_setField hT hdT (Array.getElem?_eq_some_iff.mp h3).1 ?_)
  have ot:∀b,b≠tb->(s.heap.update tb (Obj.mapFields (·.setIfInBounds 3 Value.none))).get? b=s.heap.get? b:=fun b nb=>Heap.get?_update_other _ _ nb.symm
  have self:=Heap.get?_update_self (Obj.mapFields (·.setIfInBounds 3 Value.none)) hT (Obj.isFreed_of_fields (Obj.data_mapFields hdT _))
  have nfr:∀b,b∈L2.frs (env::outer)->b≠tb:=fun b hb q=>by
   obtain ⟨_,o,ho,hnf⟩:=hl.mem hb
   rw [q,hT] at ho
   exact hnf ts0 (by rw [←Option.some.inj ho];exact hdT)
  have fr2:(s.heap.update tb (Obj.mapFields (·.setIfInBounds 3 Value.none))).FunFrames base (env::outer):=hl.of_keeps fun b o hb hnf=>⟨o,(ot b fun q=>by
   rw [q,hT] at hb
   exact hnf ts0 (by rw [←Option.some.inj hb];exact hdT)).trans hb,rfl⟩
  refine entry_own (s:={s with heap:=s.heap.update tb (Obj.mapFields (·.setIfInBounds 3 Value.none))}) hfr fr2 hf ((ot a nta.symm).trans he) hd sz fun h' T oe' vs' oT ts k n1 g1 g2 g3 g4 g5 g6 g7 g8=>?_
  have n2:T=s.heap.objs.size:=n1.trans (Heap.size_after_update ..)
  obtain ⟨m1,m2⟩:=hn T (Nat.le_of_eq n2.symm)
  refine h h' T ⟨fun b o hb nf nb nc=>k.keep b o ((ot b (nc tb rfl)).trans hb) nf nb (fun c z=>nomatch z),fun b o hb hm=>k.slot b o ((ot b (nfr b hm)).trans hb) hm,fun b o hb=>?_⟩
   ⟨⟨oe',vs',g1,g2.trans hc,g3.trans hdx,g4,g5⟩,F.new,F.free,fun b eb=>?_⟩
  ·by_cases q:b=tb
   ·subst q
    exact k.there b _ self
   ·exact k.there b o ((ot b q).trans hb)
  ·cases eb
   exact ⟨(fun q=>absurd (Heap.lt_size he) (by rw [←q,n2];exact Nat.lt_irrefl _)),m1,m2,oT,ts,g6,g7,g8⟩
end
end XL
namespace XL
open PySem PySem.Spec PyProof.Rows L2
def CXd (P:Program) (w:World):CXT:=fun outer H s E e s'=>∃(a C dx:Addr) (T:Option Addr) (H':Hp),e= .ref a/\s'.os=s.os/\AllBare s'.gens/\Un (frs outer) [] H H' s.heap s'.heap/\HOk P w H' s'.heap/\
 Fly s.heap s'.heap H' a C dx T/\E (.ref C) (some dx) H'
theorem passN {P:Program} {w:World} {X:Cx}:Passes (CXd P w) X E0:=fun _ _ _ _ _ _ _ h=>by
 obtain ⟨_,_,_,_,_,_,_,_,_,_,_,hE⟩:=h
 exact hE.elim
theorem hok_kept {P:Program} {w:World} {H:Hp} {h h':Heap} {fs:List Addr} {a:Addr} {T:Option Addr} (ok:HOk P w H h) (k:Kept fs a T h h') (hf:∀b∈fs,H b=none) (ha:H a=none) (hT:∀b,T=some b->H b=none):HOk P w H h':=fun b o e=>by
 refine (ok b o e).stay (fun c u hc q=>?_) (fun _ q=>q) fun _ _ q=>q
 have tr:H c≠none:=by
  rcases hc with z|z
  ·rw [z,e];simp
  ·rw [z];simp
 exact k.keep c u q (fun m=>tr (hf c m)) (fun z=>tr (by rw [z];exact ha)) fun d z y=>tr (by rw [y];exact hT d z)
theorem un_kept {H0 H:Hp} {h0 h h':Heap} {fs fs0:List Addr} {a:Addr} {T:Option Addr} (u:Un fs0 [] H0 H h0 h) (k:Kept fs a T h h') (hf:∀b o,h0.get? b=some o->b∈fs->b∈fs0) (ha:h0.get? a=none) (hT:∀b,T=some b->h0.get? b=none):
  Un fs0 [] H0 H h0 h':=by
 have na:∀{b o},h0.get? b=some o->b≠a:=fun e z=>by rw [z,ha] at e;cases e
 have nT:∀{b o},h0.get? b=some o->∀c,T=some c->b≠c:=fun e c q z=>by rw [z,hT c q] at e;cases e
 refine ⟨fun b o e n hb hx=>?_,fun b o e n hb hx=>?_,u.free,fun b o e hx=>?_,u.tups,u.frzs,u.tbls⟩
 ·exact k.keep b o (u.keep b o e n hb hx) (fun m=>hb (hf b o e m)) (na e) (nT e)
 ·obtain ⟨sl,e1⟩:=u.slot b o e n hb hx
  by_cases m:b∈fs
  ·obtain ⟨sl',e2⟩:=k.slot b _ e1 m
   exact ⟨sl',e2⟩
  ·exact ⟨sl,k.keep b _ e1 m (na e) (nT e)⟩
 ·obtain ⟨o',e1⟩:=u.there b o e hx
  exact k.there b o' e1
theorem Fly.older {h0 hs h:Heap} {H:Hp} {a C dx:Addr} {T:Option Addr} (F:Fly hs h H a C dx T) (k:∀b o,h0.get? b=some o->∃o',hs.get? b=some o'):Fly h0 h H a C dx T:=by
 have n:∀b,hs.get? b=none->h0.get? b=none:=fun b e=>by
  cases q:h0.get? b with
  |none=>rfl
  |some o=>
   obtain ⟨o',e'⟩:=k b o q
   rw [e] at e'
   cases e'
 exact ⟨F.obj,n a F.new,F.free,fun b e=>let ⟨z1,z2,z3,z4⟩:=F.tb b e;⟨z1,n b z2,z3,z4⟩⟩
theorem inv_flown {X:Cx} {pins:List (Addr×Obj)} {σ:L2.St} {H H':Hp} {s s':Shared} (I:Inv X pins σ H s) (os:s'.os=s.os) (bare:AllBare s'.gens) (un:Un (frs X.stack) [] H H' s.heap s'.heap) (hok:HOk X.prog X.w H' s'.heap):Inv X pins σ H' s':=
 I.call' os un hok bare fun _ z=>nomatch z
theorem passD {P:Program} {w:World} {K:PySem.W.Frag} {mg:Str->Option Value} {base:Heap} {N:List Str} {qual:Str} {scope:Scope} {f:Addr} {cd:Value} {A:Around} {outer:List Env} {s0:Shared} {H0:Hp} {E:XK}:
  Passes (CXd P w) (cxOf (CXd P w) P w K mg base N qual scope f cd A outer s0 H0 E) E:=by
 intro pins σ H s e s' I hx
 obtain ⟨a,C,dx,T,H',rfl,os,bare,un,hok,F,hE⟩:=hx
 have I':Inv (cxOf (CXd P w) P w K mg base N qual scope f cd A outer s0 H0 E) pins σ H' s':=inv_flown I os bare un hok
 have F0:Fly s0.heap s'.heap H' a C dx T:=F.older fun b o e=>I.base.there b o e (fun z=>nomatch z)
 show wpAny _ _ (leaving _ (.ref a)) _ _ s'
 unfold leaving
 refine wpAny_bind (note_own (base:=base) I.ok.frames I'.stack rfl F0 (fun b hb=>⟨?_,hok.fresh hb⟩) fun h' T' k F'=>?_)
 ·cases q:s0.heap.get? b with
  |none=>rfl
  |some o=>
   obtain ⟨o',e'⟩:=I'.base.there b o q (fun z=>nomatch z)
   exact absurd (Nat.lt_of_lt_of_le (Heap.lt_size e') hb) (Nat.lt_irrefl _)
 ·refine ⟨a,C,dx,some T',H',rfl,I'.os,I'.bare,un_kept I'.base k (fun b o e m=>?_) F0.new (fun b z=>(F0.tb b z).2.1),hok_kept hok k (fun b hb=>I'.stkFree b hb) F0.free (fun b z=>(F0.tb b z).2.2.1),F',hE⟩
  rcases List.mem_cons.mp (I'.stkSub b m) with z|z
  ·have lt:b < s0.heap.objs.size:=Heap.lt_size e
   rw [z] at lt
   exact absurd (Nat.lt_of_lt_of_le lt I.ok.above) (Nat.lt_irrefl _)
  ·exact z
theorem passOwnD {P:Program} {w:World} {K:PySem.W.Frag} {mg:Str->Option Value} {base:Heap} {N:List Str} {qual:Str} {scope:Scope} {f:Addr} {cd:Value} {A:Around} {outer:List Env} {s0:Shared} {H0:Hp} {E:XK}:
  PassesOwn (model P w) (cxOf (CXd P w) P w K mg base N qual scope f cd A outer s0 H0 E).A (cxOf (CXd P w) P w K mg base N qual scope f cd A outer s0 H0 E).env (cxOf (CXd P w) P w K mg base N qual scope f cd A outer s0 H0 E).xe:=
 PassesOwn.leaving
theorem okX {P : Program} {w : World} {K : PySem.W.Frag} {mg : Str -> Option Value} {base : Heap} {x qual : Str} {st : Stmt} {f : Addr} {fd : FuncData} {N ps : List Str} {k : Nat} {sp : Sp} (F : Fun K x qual st f fd) (S : FnScope N ps (defScope st)) (len : ∀ vs H Q E, sp vs H Q E -> vs.length = ps.length)
  (hbody : ∀ (cdv : Value) (A : Around) (outer : List Env) (s : Shared) (H : Hp) (vs : List V) (Q : VK) (E : XK), Room k (A.deeper (envOfC qual (defScope st) s.heap.objs.size f cdv)) -> sp vs H Q E ->
   ∃ t, PSs (cxOf (CXd P w) P w K mg base N qual (defScope st) f cdv A outer s H E) (defBody st) t /\ t { nx := fun _ H' => Q .non H', rt := Q } (start N vs) H) : FnOk P w K mg base (CXd P w) (k + 1) f fd ps sp := by
 obtain ⟨oc, od, kV, doc, pm, an, cdv, ct, osl, rfl, lk, hcd⟩ := F.ex
 exact fn_of lk hcd S len fun A outer s H vs Q E hr hsp => hbody cdv A outer s H vs Q E hr hsp
theorem okN {P : Program} {w : World} {K : PySem.W.Frag} {mg : Str -> Option Value} {base : Heap} {x qual : Str} {st : Stmt} {f : Addr} {fd : FuncData} {N ps : List Str} {k : Nat} {sp : Sp} (F : Fun K x qual st f fd) (S : FnScope N ps (defScope st)) (len : ∀ vs H Q E, sp vs H Q E -> vs.length = ps.length)
  (hbody : ∀ (cdv : Value) (A : Around) (outer : List Env) (s : Shared) (H : Hp) (vs : List V) (Q : VK) (E : XK), Room k (A.deeper (envOfC qual (defScope st) s.heap.objs.size f cdv)) -> sp vs H Q E ->
   ∃ t, PSs (cxOf (CXd P w) P w K mg base N qual (defScope st) f cdv A outer s H E).nox (defBody st) t /\ t { nx := fun _ H' => Q .non H', rt := Q } (start N vs) H) : FnOk P w K mg base (CXd P w) (k + 1) f fd ps sp :=
 okX F S len fun cdv A outer s H vs Q E hr hsp => by
  obtain ⟨t, h, q⟩ := hbody cdv A outer s H vs Q E hr hsp
  exact ⟨t, h.nox, q⟩
end XL
namespace XL
open PySem PySem.Spec PyProof.Rows L2
abbrev mroE:List Value:= [.type "Exception",.type "BaseException",.type "object"]
structure XCls (K:PySem.W.Frag) (C fI:Addr) (f:Str):Prop where
 ex:∃(nm q:Str) (N:Addr) (bs:List Value) (sn:List Str) (sub:List Value) (ab:Bool) (col:Option Bool) (dd:Option Addr) (k0 k1 k2 k3 k5:Option Value) (mN:Str->Option Value),
  K.lookup C=some (excClassObj nm q C N bs mroE true sn sub ab col dd k0 k1 k2 k3 k5 "Exception.__new__")/\(∀h:Heap,K.In h->h.Ns N mN)/\mN "__init__"=some (.ref fI)/\mN "__setattr__"=none/\mN "__getattribute__"=none/\mN "__getattr__"=none/\mN f=none
 kp:PySem.W.keepIn K (.ref C)=true
 fn:∃oI,K.lookup fI=some oI/\oI.cls= .type "function"
 no:typeLookup (.type "Exception") f=pure none
def XNew (C e:Addr) (h:Heap):Prop:=∃oe vs,h.get? e=some oe/\oe.cls= .ref C/\oe.dict=none/\oe.data= .fields vs/\vs[1]? =some Value.none
def XDic (C dx e:Addr) (h:Heap):Prop:=∃oe vs,h.get? e=some oe/\oe.cls= .ref C/\oe.dict=some dx/\oe.data= .fields vs/\vs[1]? =some Value.none
theorem XNew.stay {C e:Addr}:∀h1 h2:Heap,XNew C e h1->(∀o,h1.get? e=some o->h2.get? e=some o)->XNew C e h2:=fun _ _ ⟨oe,vs,h,r⟩ k=>⟨oe,vs,k _ h,r⟩
theorem XDic.stay {C dx e:Addr}:∀h1 h2:Heap,XDic C dx e h1->(∀o,h1.get? e=some o->h2.get? e=some o)->XDic C dx e h2:=fun _ _ ⟨oe,vs,h,r⟩ k=>⟨oe,vs,k _ h,r⟩
theorem obj_there {P:Program} {w:World} {H:Hp} {h:Heap} {a:Addr} {o:HO} (x:ObjOk P w H h a o):∃ob,h.get? a=some ob:=by
 cases o with
 |lst xs=>obtain ⟨_,_,_,_,e⟩:=x;exact ⟨_,e⟩
 |tup xs=>obtain ⟨_,_,_,_,e,_⟩:=x;exact ⟨_,e⟩
 |dK kvs=>obtain ⟨_,_,_,_,o,_,_,e,_⟩:=x;exact ⟨_,e⟩
 |dT kvs=>obtain ⟨_,_,_,_,o,_,_,e,_⟩:=x;exact ⟨_,e⟩
 |set S n=>obtain ⟨o,_,_,_,e,_⟩:=x;exact ⟨_,e⟩
 |ins C dx fs=>obtain ⟨_,_,_,e,_⟩:=x;exact ⟨_,e⟩
 |own y=>exact x
 |xd fs=>obtain ⟨_,⟨_,_,_,e,_⟩,_⟩:=x;exact ⟨_,e⟩
 |rng lo hi=>obtain ⟨_,_,_,e⟩:=x;exact ⟨_,e⟩
 |frz ob u=>obtain ⟨e,_⟩:=x;exact ⟨_,e⟩
 |tbl ps=>exact ⟨_,x⟩
 |met f y=>exact ⟨_,x⟩
 |ext φ=>exact x.2.1
theorem hok_none {P:Program} {w:World} {H:Hp} {h:Heap} {a:Addr} (ok:HOk P w H h) (e:h.get? a=none):H a=none:=by
 cases q:H a with
 |none=>rfl
 |some o=>
  obtain ⟨ob,e'⟩:=obj_there (ok a o q)
  rw [e] at e'
  cases e'
theorem hok_new {P:Program} {w:World} {H:Hp} {h h':Heap} {a:Addr} {o:HO} (x:HOk P w H h) (k:∀b u,h.get? b=some u->h'.get? b=some u) (hp:h.get? a=none) (new:ObjOk P w (upd H a o) h' a o):HOk P w (upd H a o) h':=fun b u e=>by
 have hn:=hok_none x hp
 by_cases hb:b=a
 ·subst hb;rw [upd_same] at e;cases e;exact new
 ·rw [upd_ne hb] at e
  exact (x b u e).stay (fun c v _ q=>k c v q) (fun c q=>by rw [upd_ne (ne_of_none q hn)];exact q) fun c xs q=>by rw [upd_ne (ne_of_none q hn)];exact q
theorem un_new {fs ex:List Addr} {H:Hp} {h h':Heap} {a:Addr} {o:HO} (k:∀b u,h.get? b=some u->h'.get? b=some u) (hp:h.get? a=none) (hn:H a=none):Un fs ex H (upd H a o) h h' where
 keep:=fun b u q _ _ _=>k b u q
 slot:=fun b u q _ _ _=>⟨u.slots,k b u q⟩
 free:=fun b u q n _=>by rw [upd_ne (fun z=>by rw [z,hp] at q;cases q)];exact n
 there:=fun b u q _=>⟨u,k b u q⟩
 tups:=fun b xs q=>by rw [upd_ne (ne_of_none q hn)];exact q
 frzs:=fun b u xs q=>by rw [upd_ne (ne_of_none q hn)];exact q
 tbls:=fun b ps q=>⟨#[],by rw [upd_ne (ne_of_none q hn),q];simp⟩
def sXF (C:Addr) (f:Str) (ta tv:TE):TS:=fun D σ H=>tv σ H fun y H1=>ta σ H1 fun x H2=>∃e,x= .ref e/\H2 e=some (.ext (XNew C e))/\
 ∀dx,H2 dx=none->D.nx σ (upd (upd H2 e (.ext (XDic C dx e))) dx (.xd [(f,y)]))
section
variable {X:Cx} {o value:Expr} {f:Str} {pos pos':Pos} {ta tv:TE} {C fI:Addr}
theorem ps_xfld (XC:XCls X.K C fI f) (ha:PE X o ta) (hv:PE X value tv) (hs:swapsWith value (some (.Attribute o f pos')) pos.line X.env=pure false):PS X (.Assign [.Attribute o f pos'] value pos) (sXF C f ta tv):=by
 intro pins s σ H D I h
 refine plainObj_wpAny_Assign_Attribute (thn (hv pins s σ H _ I h) fun u s1 ⟨y,H1,I1,ry,q⟩=>thn (ha pins s1 σ H1 _ I1 q) fun ov s2 ⟨x,H2,I2,rx,e,ex,ea,q2⟩=>?_) hs
 subst ex
 obtain rfl:ov=Value.ref e:=rx
 obtain ⟨nm,qn,N,bs,sn,sub,ab,col,dd,k0,k1,k2,k3,k5,mN,lk,hN,m1,m2,m3,m4,m5⟩:=XC.ex
 obtain ⟨⟨oe,vs,he,hc,hdn,hd,h1⟩,_,_⟩:=(show ObjOk X.prog X.w H2 s2.heap e (.ext (XNew C e)) from I2.hok e _ ea)
 obtain ⟨hp,g,dr,tk,os⟩:=s2
 refine first_attr PySem.F.store_Exception (I2.kIn _ _ lk) (hN _ I2.kIn) m2 m5 XC.no he hc (fun c z=>by rw [hd] at z;cases z) hdn fun h' tk' dx Fi=>?_
 have n2:hp.get? dx=none:=Heap.get?_none_of_le (by rw [Fi.new];exact Nat.le_refl _)
 have nH:H2 dx=none:=I2.hok.fresh (Nat.le_of_eq Fi.new)
 have ne:dx≠e:=fun z=>by rw [z,ea] at nH;cases nH
 have w1:Inv X pins σ (upd H2 e (.ext (XDic C dx e))) {(⟨hp,g,dr,tk,os⟩:Shared) with heap:=h',toks:=tk'}:=by
  refine I2.write (x:=e) (e:=e) (h':=h') (t':=tk') (by rw [ea];exact True.intro) (.inl rfl) (fun b u nb z=>Fi.keep b u nb z) ⟨_,Fi.obj⟩ ?_
  exact ⟨⟨_,vs,Fi.obj,hc,rfl,hd,h1⟩,⟨_,Fi.obj⟩,XDic.stay⟩
 have ok2:HOk X.prog X.w (upd (upd H2 e (.ext (XDic C dx e))) dx (.xd [(f,y)])) h':=fun b u z=>by
  by_cases hb:b=dx
  ·subst hb
   rw [upd_same] at z
   cases z
   refine ⟨_,Fi.ns,fun g=>?_⟩
   by_cases eg:g=f
   ·subst eg
    have hb:(g==g)=true:=beq_self_eq_true g
    rw [if_pos rfl]
    show RelO (List.lookup g [(g,y)]) _
    simp only [List.lookup,hb]
    exact ry
   ·have hb:(g==f)=false:=beq_eq_false_iff_ne.mpr eg
    rw [if_neg eg]
    show RelO (List.lookup g [(f,y)]) _
    simp only [List.lookup,hb]
    exact True.intro
  ·rw [upd_ne hb] at z
   have n3:upd H2 e (.ext (XDic C dx e)) dx=none:=by rw [upd_ne ne];exact nH
   exact (w1.hok b u z).stay (fun _ _ _ q=>q) (fun c q=>by rw [upd_ne (ne_of_none q n3)];exact q) fun c xs q=>by rw [upd_ne (ne_of_none q n3)];exact q
 have mu:Mut (H2 e):=by rw [ea];exact True.intro
 have n4:∀b,H2 b=none->b≠e:=fun b n z=>by rw [z,ea] at n;cases n
 have n5:∀b u,H2 b=some u->¬Mut (some u)->b≠e:=fun b u q nm z=>by subst z;rw [q] at mu;exact nm mu
 have n6:∀b u,H2 b=some u->b≠dx:=fun b u q z=>by rw [z,nH] at q;cases q
 have w2:Un X.fs [] H2 (upd (upd H2 e (.ext (XDic C dx e))) dx (.xd [(f,y)])) hp h':=by
  have kp:∀b u,H2 b=none->hp.get? b=some u->h'.get? b=some u:=fun b u n q=>Fi.keep b u (n4 b n) q
  refine ⟨fun b u q n _ _=>kp b u n q,fun b u q n _ _=>⟨u.slots,kp b u n q⟩,fun b u q n _=>?_,fun b u q _=>?_,fun b xs q=>?_,fun b u xs q=>?_,fun b ps q=>⟨#[],?_⟩⟩
  ·rw [upd_ne (fun z=>by rw [z,n2] at q;cases q),upd_ne (n4 b n)]
   exact n
  ·by_cases z:b=e
   ·subst z;exact ⟨_,Fi.obj⟩
   ·exact ⟨u,Fi.keep b u z q⟩
  ·rw [upd_ne (n6 b _ q),upd_ne (n5 b _ q fun z=>z)];exact q
  ·rw [upd_ne (n6 b _ q),upd_ne (n5 b _ q fun z=>z)];exact q
  ·rw [upd_ne (n6 b _ q),upd_ne (n5 b _ q fun z=>z),q];simp
 have I3:Inv X pins σ (upd (upd H2 e (.ext (XDic C dx e))) dx (.xd [(f,y)])) {(⟨hp,g,dr,tk,os⟩:Shared) with heap:=h',toks:=tk'}:=I2.un w2 ok2
 exact ⟨σ,_,I3,q2 dx nH⟩
end
def spX (C:Addr) (f:Str):Sp:=fun vs H Q _=>∃e v,vs= [.ref e,v]/\H e=some (.ext (XNew C e))/\∀dx,H dx=none->Q .non (upd (upd H e (.ext (XDic C dx e))) dx (.xd [(f,v)]))
def tRaise (C:Addr) (f:Str) (E:XK) (t:TA):TS:=fun _ σ H=>t σ H fun vs H1=>∃v,vs= [v]/\∀dx,H1 dx=none->E (.ref C) (some dx) (upd H1 dx (.xd [(f,v)]))
section
variable {X:Cx} {f x sf:Str} {p pos cpos:Pos} {e:Expr} {t:TA} {C fI:Addr} {fd:FuncData} {k:Nat} {E:XK}
theorem ps_raise (XC:XCls X.K C fI f) (F:FnOk X.prog X.w X.K X.mg X.base (CXd X.prog X.w) k fI fd [sf,f] (spX C f)) (hr:Room (k+1) X.A) (hg:Gl X x) (hm:X.mg x=some (.ref C)) (hb:Binds X.K fd [sf,f] []) (hx:Passes (CXd X.prog X.w) X E)
  (ha:PA X [e] t) (hdb:(x==("__debug__":Str))=false:=by decide) (he:starEach [e] X.env=(false,eval e X.env)::starEach [] X.env:=by rfl) (hpl:(backTo cpos (starEach ([]:List Expr) X.env)).any (·.1)=false:=by rfl):
  PS X (.Raise (some (.Call (.Name x p) [e] [] cpos)) none pos) (tRaise C f E t):=by
 intro pins s σ H D I h
 obtain ⟨nm,qn,N,bs,sn,sub,ab,col,dd,k0,k1,k2,k3,k5,mN,lk,hN,m1,m2,m3,m4,m5⟩:=XC.ex
 rw [arm_exec_Raise]
 refine wpAny_bind (wpAny_standAt ?_)
 show wpAny _ _ (raiseStmt X.env (some (do let v ←eval (.Call (.Name x p) [e] [] cpos) X.env;standAt pos;pure v)) none) _ _ s
 refine raise_own (C:=C) (nm:=nm) (q:=qn) (N:=N) (bs:=bs) (bm:=mroE) (hdct:=true) (sn:=sn) (sub:=sub) (ab:=ab) (col:=col) (dd:=dd) (k0:=k0) (k1:=k1) (k2:=k2) (k3:=k3) (k5:=k5) (newId:="Exception.__new__") (by decide+kernel) hr.hd ?_
 refine wpAny_bind (wpAny_mono (Q:=fun v s1=>∃e oe vs,v= .ref e/\s1.heap.get? C=some (excClassObj nm qn C N bs mroE true sn sub ab col dd k0 k1 k2 k3 k5 "Exception.__new__")/\
   s1.heap.get? e=some oe/\oe.cls= .ref C/\oe.data= .fields vs/\vs[1]? =some .none/\X.xe (.ref e) s1) ?_ (fun v s1 h1=>wpAny_bind (wpAny_standAt (wpAny_pure h1))) fun _ _ z=>z)
 refine wpAny_Call_Name_kw (ld_glob I hg hm ?_ hdb)
 refine PySem.W.callWith_K (h₀:=X.base) I.ok.mod.kin XC.kp (thn (ha cpos pins s σ H _ I h) fun us s1 ⟨vs,H1,I1,r,v,ev,q⟩=>⟨I1.kIn,?_⟩) he hpl
 subst ev
 obtain ⟨oI,hI,hIc⟩:=XC.fn
 have KX:=I1.kIn
 have lu:us.length=1:=r.length.symm
 obtain ⟨hp,gs,dr,tk,os⟩:=s1
 refine wpAny_call_exc_init PySem.F.excBase_Exception (KX _ _ lk) (hN _ KX) m1 (KX _ _ hI) hIc (fun h' a hm=>?_) (by rw [List.nil_append,lu];decide)
 simp only [List.nil_append] at hm⊢
 obtain ⟨tt,ga,_,_⟩:=hm.there
 have na:H1 a=none:=hok_none I1.hok hm.new
 have ok1:HOk X.prog X.w (upd H1 a (.ext (XNew C a))) h':=hok_new I1.hok hm.keeps hm.new ⟨⟨_,_,ga,rfl,rfl,rfl,rfl⟩,⟨_,ga⟩,XNew.stay⟩
 have un1:Un (frs X.stack) [] H1 (upd H1 a (.ext (XNew C a))) hp h':=un_new hm.keeps hm.new na
 have I2:Inv X pins σ (upd H1 a (.ext (XNew C a))) ⟨h',gs,dr,tk,os⟩:=inv_flown I1 rfl I1.bare un1 ok1
 have hq:spX C f [.ref a,v] (upd H1 a (.ext (XNew C a))) (fun z H2=>z= .non/\∃dx,H1 dx=none/\dx≠a/\H2=upd (upd (upd H1 a (.ext (XNew C a))) a (.ext (XDic C dx a))) dx (.xd [(f,v)])) E0:=
  ⟨a,v,rfl,upd_same,fun dx hd=>by
   have nd:dx≠a:=fun z=>by rw [z,upd_same] at hd;cases hd
   exact ⟨rfl,dx,by rw [upd_ne nd] at hd;exact hd,nd,rfl⟩⟩
 have r2:Vals [V.ref a,v] (Value.ref a::us):= .cons rfl r
 have hl2:(Value.ref a::us++ []).length= [sf,f].length:=by simp [lu]
 have hb2:=hb ⟨h',gs,dr,tk,os⟩ (Value.ref a::us) I2.kIn hl2
 rw [List.append_nil] at hb2
 refine wpAny_call (codeAny_mono (F.run _ X.stack _ _ ⟨Value.ref a::us,[]⟩ (Value.ref a::us) _ _ E0 (hr.make C us []) (I2.env0.make C us []) hb2 r2 hq) fun r s' hq'=>?_)
 cases r with
 |error e=>
  obtain ⟨_,_,_,_,_,_,_,_,_,_,_,hE⟩:=hq'
  exact hE.elim
 |ok fl=>
  cases fl with
  |next=>exact False.elim hq'
  |brk=>exact False.elim hq'
  |cont=>exact False.elim hq'
  |ret u=>
   obtain ⟨z,H2,os2,bare2,un2,ok2,rz,ez,dx,ndx,nda,eH⟩:=hq'
   subst ez
   subst eH
   refine ⟨rz,?_⟩
   have eq1:upd (upd (upd H1 a (.ext (XNew C a))) a (.ext (XDic C dx a))) dx (.xd [(f,v)])=upd (upd H1 a (.ext (XDic C dx a))) dx (.xd [(f,v)]):=by rw [upd_upd]
   rw [eq1] at un2 ok2
   have tr:=un1.trans un2
   have ha2:upd (upd H1 a (.ext (XDic C dx a))) dx (.xd [(f,v)]) a=some (.ext (XDic C dx a)):=by rw [upd_ne (Ne.symm nda),upd_same]
   obtain ⟨⟨oe,vs,he,hc,hdx,hd,h1⟩,_,_⟩:=(show ObjOk X.prog X.w _ s'.heap a (.ext (XDic C dx a)) from ok2 a _ ha2)
   have at_:∀b,b≠a->upd (upd H1 a (.ext (XDic C dx a))) dx (.xd [(f,v)]) b=upd H1 dx (.xd [(f,v)]) b:=fun b nb=>by
    by_cases hb:b=dx
    ·subst hb;rw [upd_same,upd_same]
    ·rw [upd_ne hb,upd_ne nb,upd_ne hb]
   have fa:upd H1 dx (.xd [(f,v)]) a=none:=by rw [upd_ne (Ne.symm nda)];exact na
   have ok3:HOk X.prog X.w (upd H1 dx (.xd [(f,v)])) s'.heap:=fun b o e=>by
    have nb:b≠a:=fun z=>by rw [z,fa] at e;cases e
    rw [←at_ b nb] at e
    refine (ok2 b o e).stay (fun _ _ _ q=>q) (fun c q=>?_) fun c xs q=>?_
    ·rw [←at_ c (fun z=>by rw [z,ha2] at q;cases q)];exact q
    ·rw [←at_ c (fun z=>by rw [z,ha2] at q;cases q)];exact q
   have old:∀b u,H1 b=some u->upd H1 dx (.xd [(f,v)]) b=some u:=fun b u e=>by rw [upd_ne (fun z=>by rw [z,ndx] at e;cases e)];exact e
   have un3:Un (frs X.stack) [] H1 (upd H1 dx (.xd [(f,v)])) hp s'.heap:=by
    refine ⟨tr.keep,tr.slot,fun b o e n hx=>?_,tr.there,fun b xs e=>old b _ e,fun b o u e=>old b _ e,fun b ps e=>⟨#[],by rw [old b _ e];simp⟩⟩
    have q:=tr.free b o e n hx
    rw [at_ b (fun z=>by rw [z,hm.new] at e;cases e)] at q
    exact q
   refine ⟨a,oe,vs,rfl,?_,he,hc,hd,h1,?_⟩
   ·have K2:=(inv_flown I1 os2 bare2 un3 ok3).kIn
    exact K2 _ _ lk
   ·exact hx pins σ H1 _ (.ref a) s' I1 ⟨a,C,dx,none,upd H1 dx (.xd [(f,v)]),rfl,os2,bare2,un3,ok3,⟨⟨oe,vs,he,hc,hdx,hd,h1⟩,hm.new,fa,fun b z=>nomatch z⟩,q dx ndx⟩
end
end XL
namespace XL
open PySem PySem.Spec PyProof.Rows L2
def TryX (X:Cx) (D:Ends) (hs:List ExceptHandler):Value->Shared->Prop:=fun e s1=>
 wpAny (model X.prog X.w) X.A (noteFrame e X.env) (fun _ s2=>wpAny (model X.prog X.w) X.A (setFlight e none) (fun _ s3=>wpAny (model X.prog X.w) X.A (handleBy e X.env hs) (SP X [] D) X.xe s3) X.xe s2) X.xe s1
abbrev sup (X:Cx) (a:Addr):Cx:={X with A:=X.A.mark (some (.ref a)),calm:=false,xe:=fun _ _=>False}
theorem ok_sup {X:Cx} (ok:X.Ok) (a:Addr):(sup X a).Ok:=
 ⟨ok.mod,ok.kind,ok.glob,ok.blt,ok.above,ok.inj,ok.has,ok.cab,(fun z=>nomatch z),ok.frames,ok.stk,ok.exf,ok.bs,ok.bsz,ok.noex,ok.exfs,ok.funs,ok.frf⟩
theorem inv_sup {X:Cx} {pins:List (Addr×Obj)} {σ:L2.St} {H:Hp} {s:Shared} (I:Inv X pins σ H s) (a:Addr):Inv (sup X a) pins σ H s:=⟨ok_sup I.ok a,I.os,I.bare,I.base,I.loc,I.cell,I.free,I.freeC,I.pin,I.hok,I.len⟩
theorem inv_unsup {X:Cx} {pins:List (Addr×Obj)} {σ:L2.St} {H:Hp} {s:Shared} {a:Addr} (ok:X.Ok) (I:Inv (sup X a) pins σ H s):Inv X pins σ H s:=⟨ok,I.os,I.bare,I.base,I.loc,I.cell,I.free,I.freeC,I.pin,I.hok,I.len⟩
theorem sp_unsup {X:Cx} {pins:List (Addr×Obj)} {a:Addr} {D:Ends} {f:Flow} {s':Shared} (ok:X.Ok) (h:SP (sup X a) pins D f s'):SP X pins D f s':=by
 cases f with
 |next=>obtain ⟨σ',H',I,q⟩:=h;exact ⟨σ',H',inv_unsup ok I,q⟩
 |brk=>obtain ⟨σ',H',I,q⟩:=h;exact ⟨σ',H',inv_unsup ok I,q⟩
 |cont=>obtain ⟨σ',H',I,q⟩:=h;exact ⟨σ',H',inv_unsup ok I,q⟩
 |ret u=>obtain ⟨v,σ',H',I,r,q⟩:=h;exact ⟨v,σ',H',inv_unsup ok I,r,q⟩
inductive Hnd (X : Cx) (D : Ends) : List ExceptHandler -> XK -> Prop
 | nil : Hnd X D [] (fun _ _ _ => False)
 | cons {x : Str} {p hpos : Pos} {b0 : Stmt} {body : List Stmt} {rest : List ExceptHandler} {C fI : Addr} {f : Str} {th : TS} {E : XK} (XC : XCls X.K C fI f) (hg : Gl X x) (hm : X.mg x = some (.ref C)) (hdb : (x == ("__debug__" : Str)) = false)
   (hh : ∀ a, PSs (sup X a) (b0 :: body) th) (hr : Hnd X D rest E) : Hnd X D (.ExceptHandler (some (.Name x p)) none (b0 :: body) hpos :: rest)
    (fun cls od H' => (cls = .ref C /\ ∀ σ : L2.St, th D σ H') ∨ (∃ C' fI' f', cls = .ref C' /\ C' ≠ C /\ XCls X.K C' fI' f' /\ E cls od H'))
theorem wp_setFlight {M:Model} {A:Around} {E:Value->Shared->Prop} {s:Shared} {hs:Heap} {H:Hp} {a C dx T:Addr} {Q:Unit->Shared->Prop} (F:Fly hs s.heap H a C dx (some T))
  (h:∀h',Kept [] T none s.heap h'->Fly hs h' H a C dx (some T)->Q () {s with heap:=h'}):wpAny M A (setFlight (.ref a) none) Q E s:=by
 obtain ⟨oe,vs,he,hc,hdx,hd,h1⟩:=F.obj
 obtain ⟨nta,nts,ntH,oT,ts,hT,hdT,h3⟩:=F.tb T rfl
 have z3:=(Array.getElem?_eq_some_iff.mp h3).1
 refine wpAny_setFlight_none he hd h1 hT hdT z3 (h _ ⟨fun b o hb _ nb _=>?_,(fun b o _ hm=>nomatch hm),fun b o hb=>?_⟩ ⟨⟨oe,vs,?_,hc,hdx,hd,h1⟩,F.new,F.free,fun b eb=>?_⟩)
 ·rw [Heap.get?_update_other _ _ nb.symm];exact hb
 ·by_cases q:b=T
  ·subst q
   exact ⟨_,Heap.get?_update_self _ hT (Obj.isFreed_of_fields (Obj.data_mapFields hdT _))⟩
  ·exact ⟨o,by rw [Heap.get?_update_other _ _ (Ne.symm q)];exact hb⟩
 ·rw [Heap.get?_update_other _ _ nta];exact he
 ·cases eb
  exact ⟨nta,nts,ntH,_,_,Heap.get?_update_self _ hT (Obj.isFreed_of_fields (Obj.data_mapFields hdT _)),Obj.data_mapFields hdT _,by simp [z3]⟩
theorem handle {X:Cx} {D:Ends} {σ:L2.St} {H H':Hp} {s:Shared} {a C dx T:Addr} (I:Inv X [] σ H s) (hn:X.A.handled=none) {hs:List ExceptHandler} {E:XK} (hnd:Hnd X D hs E):
  ∀s2:Shared,s2.os=s.os->AllBare s2.gens->Un (frs X.stack) [] H H' s.heap s2.heap->HOk X.prog X.w H' s2.heap->Fly s.heap s2.heap H' a C dx (some T)->E (.ref C) (some dx) H'->
   wpAny (model X.prog X.w) X.A (handleBy (.ref a) X.env hs) (SP X [] D) X.xe s2:=by
 induction hnd with
 |nil=>exact fun _ _ _ _ _ _ h=>h.elim
 | @cons x p hpos b0 body rest Ch fI f th E XC hg hm hdb hh hr ih=>
  intro s2 os bare un ok F hE
  have I2:Inv X [] σ H' s2:=inv_flown I os bare un ok
  have I3:=inv_sup I2 a
  obtain ⟨nm,qn,N,bs,sn,sub,ab,col,dd,k0,k1,k2,k3,k5,mN,lk,_⟩:=XC.ex
  obtain ⟨oe,vs,he,hc,_⟩:=F.obj
  refine wpAny_handleBy_cons (codeAny_handlers_test (ld_glob I3 hg hm ?_ hdb)) (by intro q;cases q)
  obtain ⟨hp,gs,dr,tk,os'⟩:=s2
  rcases hE with ⟨ec,ht⟩|⟨C',fI',f',ec,ne,XC',hE⟩
  ·cases ec
   refine fits_own (I2.kIn _ _ lk) (I2.kIn _ _ lk) he hc (by decide+kernel) ?_
   rw [show ((Value.ref C::mroE).contains (.ref C))=true by rw [List.contains_cons,beq_self_eq_true];rfl,if_pos rfl]
   refine codeAny_handlers_suite ?_
   refine wp_setFlight F fun h' k F'=>?_
   have un':=un_kept (fs:= []) un k (fun _ _ _ z=>nomatch z) (F.tb T rfl).2.1 (fun _ z=>nomatch z)
   have ok':=hok_kept ok k (fun _ z=>nomatch z) (F.tb T rfl).2.2.1 (fun _ z=>nomatch z)
   have I4:Inv (sup X a) [] σ H' ⟨h',gs,dr,tk,os'⟩:=inv_sup (inv_flown (s':=⟨h',gs,dr,tk,os'⟩) I os bare un' ok') a
   refine wpAny_mono (hh a [] _ σ H' D I4 (ht σ)) (fun fl s3 q=>?_) fun _ _ z=>z.elim
   exact sp_unsup I.ok q
  ·cases ec
   obtain ⟨nm',qn',N',bs',sn',sub',ab',col',dd',j0,j1,j2,j3,j5,mN',lk',_⟩:=XC'.ex
   refine fits_own (I2.kIn _ _ lk') (I2.kIn _ _ lk) he hc (by decide+kernel) ?_
   have nb:((Value.ref C::mroE).contains (.ref Ch))=false:=by
    rw [List.contains_cons]
    have z:((Value.ref Ch==Value.ref C):Bool)=false:=by
     refine beq_eq_false_iff_ne.mpr fun q=>ne ?_
     injection q with q
     exact q.symm
    rw [z]
    rfl
   rw [nb,if_neg Bool.false_ne_true]
   exact ih ⟨hp,gs,dr,tk,os'⟩ os bare un ok F hE
theorem passT {X:Cx} {D:Ends} {hs:List ExceptHandler} {E:XK} {env:Env} {outer:List Env} {L:Addr} (hst:X.stack=X.env::outer) (hf:X.env.frame=some L) (hn:X.A.handled=none) (hex:X.ex= []) (hnd:Hnd X D hs E):
  Passes (CXd X.prog X.w) (X.wish (TryX X D hs)) E:=by
 intro pins σ H s e s' I hx
 obtain ⟨a,C,dx,T,H',rfl,os,bare,un,hok,F,hE⟩:=hx
 have I0:Inv X [] σ H s:=(I.unwish).pins_of fun p hp=>nomatch hp
 have I':Inv X [] σ H' s':=inv_flown I0 os bare un hok
 have fr:=I.ok.frames
 have un2:Un (frs X.stack) [] H H' s.heap s'.heap:=un
 rw [hst] at un2
 show wpAny _ _ (noteFrame (.ref a) X.env) _ _ s'
 have stk:=I'.stack
 rw [hst] at stk
 refine note_own (base:=X.base) (by rw [←hst];exact fr) stk hf F (fun b hb=>⟨?_,hok.fresh hb⟩) fun h' T' k F'=>?_
 ·cases q:s.heap.get? b with
  |none=>rfl
  |some o=>
   obtain ⟨o',e'⟩:=un.there b o q (fun z=>nomatch z)
   exact absurd (Nat.lt_of_lt_of_le (Heap.lt_size e') hb) (Nat.lt_irrefl _)
 ·have un3:=un_kept un2 k (fun _ _ _ z=>z) F.new (fun b z=>(F.tb b z).2.1)
  rw [←hst] at un3
  refine handle I0 hn hnd _ os bare un3 (hok_kept hok k (fun b hb=>I'.stkFree b (by rw [hst];exact hb)) F.free (fun b z=>(F.tb b z).2.2.1)) F' hE
def PSs0 (X:Cx) (st:List Stmt) (t:TS):Prop:=
 ∀(s:Shared) (σ:L2.St) (H:Hp) (D:Ends),Inv X [] σ H s->t D σ H->wpAny (model X.prog X.w) X.A (execs st X.env) (SP X [] D) X.xe s
theorem ps0_of {X:Cx} {st:List Stmt} {t:TS} (h:PSs X st t):PSs0 X st t:=fun s σ H D I q=>h [] s σ H D I q
def tTry (tb:Ends->TS) (tr:TS):TS:=fun D σ H=>tb {D with nx:=tr D} {D with nx:=tr D} σ H
theorem ps0_try {X:Cx} {body:List Stmt} {h0:ExceptHandler} {hs:List ExceptHandler} {rest:List Stmt} {pos:Pos} {tb:Ends->TS} {tr:TS} (hb:∀D,PSs (X.wish (TryX X D (h0::hs))) body (tb D)) (hr:PSs0 X rest tr):
  PSs0 X (.Try body (h0::hs) [] [] pos::rest) (tTry tb tr):=by
 intro s σ H D I h
 refine wpAny_execs_cons (wpAny_mono (Q:=SP X [] {D with nx:=tr D}) (wpAny_Try_except ?_) (fun f s1 q=>?_) fun _ _ z=>z)
 ·refine wpAny_mono (hb {D with nx:=tr D} [] s σ H {D with nx:=tr D} (I.wish _) h) (fun f s1 q=>?_) fun _ _ z=>z
  cases f with
  |next=>exact wpAny_execs_nil q.unwish
  |ret v=>exact q.unwish
  |brk=>exact q.unwish
  |cont=>exact q.unwish
 ·cases f with
  |next=>
   obtain ⟨σ',H',I',q⟩:=q
   exact hr s1 σ' H' D I' q
  |ret v=>exact q
  |brk=>exact q
  |cont=>exact q
theorem okT {P : Program} {w : World} {K : PySem.W.Frag} {mg : Str -> Option Value} {base : Heap} {x qual : Str} {st : Stmt} {f : Addr} {fd : FuncData} {N ps : List Str} {k : Nat} {sp : Sp} (F : Fun K x qual st f fd) (S : FnScope N ps (defScope st)) (len : ∀ vs H Q E, sp vs H Q E -> vs.length = ps.length)
  (hbody : ∀ (cdv : Value) (A : Around) (outer : List Env) (s : Shared) (H : Hp) (vs : List V) (Q : VK) (E : XK), Room k (A.deeper (envOfC qual (defScope st) s.heap.objs.size f cdv)) -> sp vs H Q E ->
   ∃ t, PSs0 (cxOf (CXd P w) P w K mg base N qual (defScope st) f cdv A outer s H E) (defBody st) t /\ t { nx := fun _ H' => Q .non H', rt := Q } (start N vs) H) : FnOk P w K mg base (CXd P w) (k + 1) f fd ps sp := by
 obtain ⟨oc, od, kV, doc, pm, an, cdv, ct, osl, rfl, lk, hcd⟩ := F.ex
 refine ⟨len, fun A outer s H args us vs Q E hr e0 hb r hsp => ?_⟩
 have hl := len _ _ _ _ hsp
 have KX : K.In s.heap := e0.mod.kin.keeps fun b o e => (e0.bs b o e).1
 have lim : s.heap.NoLimit := e0.mod.nolimit.keeps fun b o e => (e0.bs b o e).1
 have hkind : ∀ y ∈ ps.zip us, (defScope st).names.lookup y.1 = some .local ∨ ((defScope st).names.lookup y.1 = some .cell /\ ((cellsFrom (s.heap.objs.size + 1) (defScope st).names []).lookup y.1).isSome = true) := fun ⟨n, v⟩ hy => by
  rcases S.par n (List.of_mem_zip hy).1 with q | q
  ·exact .inl q
  ·exact .inr ⟨q, PySem.W.cellsFrom_some _ _ _ (.inl q)⟩
 refine codeAny_call_function hr.depth (KX _ _ lk) rfl S.co S.gen rfl (PySem.W.codeRec_of KX hcd) (hb _ _ _ _ ?_)
 refine wpAny_newFunctionEnv_cells S.kind hkind fun env he s1 x => ?_
 subst he
 refine ⟨lim.keeps x.toInCall.keep, codeAny_func ?_⟩
 obtain ⟨t, ht, hq⟩ := hbody cdv A outer s H vs Q E (hr.deeper _) hsp
 have I : Inv (cxOf (CXd P w) P w K mg base N qual (defScope st) f cdv A outer s H E) [] (start N vs) H s1 := inv_start S hr.hd e0 hl r x
 refine wpAny_mono (ht s1 (start N vs) H _ I hq) (fun fl s' hs => ?_) fun e s' hs => hs
 cases fl with
 | ret u => obtain ⟨v, σ', H', J, rv, q⟩ := hs; exact ⟨v, H', J.os, J.bare, J.base, J.hok, rv, q⟩
 | next => obtain ⟨σ', H', J, q⟩ := hs; exact ⟨.non, H', J.os, J.bare, J.base, J.hok, rfl, q⟩
 | brk => obtain ⟨_, _, _, q⟩ := hs; exact False.elim q
 | cont => obtain ⟨_, _, _, q⟩ := hs; exact False.elim q
end XL
namespace XL
open PySem
section
variable {K:PySem.W.Frag} {N:Addr} {oc:Value} {od:Option Addr} {es:Array DictEntry} {ep:Nat} {sl:Array (Option Value)} {x:Str}
theorem ns_of {h:Heap} (KX:K.In h) (l:K.lookup N=some ⟨oc,od,.dict es ep,sl⟩) (s:es.toList.all (fun e=>match e.key with| .str _ _=>true|_=>false)=true):h.Ns N (nsFind es):=by
 refine ⟨_,es,ep,KX _ _ l,rfl,fun e he=>?_,fun _=>rfl⟩
 have hx:=List.all_eq_true.mp s e (Array.mem_toList_iff.mpr he)
 cases hk:e.key<;>rw [hk] at hx<;>first|exact ⟨_,_,rfl⟩|cases hx
theorem ns_at {v:Value} (e:PySem.W.nsIn K N x=some (some v)) (l:K.lookup N=some ⟨oc,od,.dict es ep,sl⟩):nsFind es x=some v:=by
 unfold PySem.W.nsIn at e
 rw [l] at e
 dsimp only at e
 unfold nsFind findBy
 rw [←Array.find?_toList]
 cases q:es.toList.find? (fun e=>e.key.isStr x) with
 |none=>
  rw [q] at e
  dsimp only at e
  split at e<;>cases e
 |some en=>
  rw [q] at e
  cases e
  rfl
theorem ns_no (e:PySem.W.nsIn K N x=some none) (l:K.lookup N=some ⟨oc,od,.dict es ep,sl⟩):nsFind es x=none:=by
 unfold PySem.W.nsIn at e
 rw [l] at e
 dsimp only at e
 unfold nsFind findBy
 rw [←Array.find?_toList]
 cases q:es.toList.find? (fun e=>e.key.isStr x) with
 |none=>rfl
 |some en=>
  rw [q] at e
  cases e
end
end XL
namespace XL
open PySem PySem.SeqAt
open AutoSeq1 (wpAny_loadPart')
open MeetsSeq MeetsSeq2 MeetsSeq3 SeqRoads2
theorem idx_loop {M : Model} {A : Around} {E : Value -> Shared -> Prop} {s : Shared} {prog : Program} {w : World} (hM : M = model prog w) (items : Array Value) (x : Value) (e : Value -> Bool) (j : Nat) (hj : j < items.size) (hit : e items[j] = true) (hno : ∀ m (hm : m < items.size), m < j -> e items[m] = false)
  (he : ∀ y, y ∈ items -> EqAt A s y x (e y)) {Q : Option Fin × Unit -> Shared -> Prop} (h : wpAny M A (retInt (j : Nat)) (fun r s' => Q (some r, ()) s') E s) :
  ∀ k i, i + k = items.size -> i <= j -> wpAny M A (forIn (List.range' i k) ((none : Option Fin), ()) fun i _ =>
   match items[i]? with
   | some y => do
    let b ← eqBool y x
    if b = true then do
      let r ← retInt ((i : Nat) : Int)
      pure (ForInStep.done (some r, ()))
     else pure (ForInStep.yield (none, ()))
   | _ => pure (ForInStep.yield (none, ()))) Q E s := by
 subst hM
 intro k
 induction k with
 | zero => intro i h1 h2; omega
 | succ k ih =>
  intro i h1 h2
  have hi : i < items.size := by omega
  rw [List.range'_succ, List.forIn_cons, Array.getElem?_eq_getElem hi]
  refine wpAny_bind (wpAny_bind (he _ (Array.getElem_mem hi) prog w _ _ ?_))
  by_cases hij : i = j
  ·subst hij
   rw [hit, if_pos rfl]
   exact wpAny_bind (wpAny_mono h (fun r s' q => wpAny_pure (wpAny_pure q)) fun _ _ z => z)
  ·rw [hno i hi (by omega), if_neg Bool.false_ne_true]
   exact wpAny_pure (ih (i + 1) (by omega) (by omega))
theorem tuple_indexAt (l : Addr) (items : Array Value) (n : Nat) (dd : Option Addr) (sl : Array (Option Value)) (x : Value) (e : Value -> Bool) (j : Nat) (hj : j < items.size)
  (hit : e items[j] = true) (hno : ∀ m (hm : m < items.size), m < j -> e items[m] = false) :
  Meets (Builtin.«tuple.index» ⟨[.ref l, x], []⟩)
   (fun A R s => s.heap.get? l = some { cls := .type "tuple", dict := dd, data := .seq items n, slots := sl } /\ (∀ y, y ∈ items -> EqAt A.in1 s y x (e y)) /\ R (.ok (.ret (.int j s.toks))) { s with toks := s.toks + 1 }) := by
 intro prog w A R s h
 obtain ⟨hp, g, d, tk, os⟩ := s; obtain ⟨hl, he, h⟩ := h
 unfold Builtin.«tuple.index»
 simp only [Std.Legacy.Range.forIn_eq_forIn_range', Std.Legacy.Range.size]
 repeat (first | (with_reducible refine wpAny_bind (idx_loop rfl items x e j hj hit hno he ?_ _ _ ?_ ?_)) | (with_reducible refine wpAny_loadPart' hl ?_) | wp_step)
 ·exact h
 ·simp
 ·exact Nat.zero_le _
end XL
namespace XL
open PySem PySem.Spec PyProof.Rows L2
section
variable {X:Cx}
def rTIndex (K:PySem.W.Frag):V->List V->Hp->VK->Prop:=fun x xs H Q=>∃(a:Addr) (ys:List V) (y:V) (j:Nat) (z:V),x=V.ref a/\xs= [y]/\SqT K H a ys/\flatV y=true/\ys.all flatV=true/\ys[j]? =some z/\eqV z y=true/\
 (∀(m:Nat) (z':V),m < j->ys[m]? =some z'->eqV z' y=false)/\Q (.int (j:Nat)) H
theorem mt_tindex:MtR X "tuple.index" (rTIndex X.K):=by
 intro pins s σ H x xs v us Q I rx rxs h
 obtain ⟨a,ys,y,j,z,rfl,rfl,hs,fy,fys,hz,hzj,hno,q⟩:=h
 cases rx
 cases rxs with
 |cons ry rt=>
  rename_i uy ut
  cases rt
  obtain ⟨its,rv,⟨⟨cls,dd,data,sl⟩,ho,hc,n,hd⟩,hlen⟩:=I.tuple hs
  simp only at hc hd
  subst hc hd
  obtain ⟨u,hu,ru⟩:=rv.get hz
  obtain ⟨hjl,hje⟩:=List.getElem?_eq_some_iff.mp hu
  have hvl:=rv.length
  have hj:j < its.toArray.size:=by simpa using hjl
  refine call_meets PySem.F.slot_tuple_index ⟨_,ho,rfl⟩ PySem.F.entry_tuple_index (PySem.F.args_tuple_index_2 _ _)
   (tuple_indexAt a its.toArray n dd sl uy (eqU y) j hj ?_ ?_) ⟨ho,fun u' hu'=>mem_eqAt ry fy rv fys u' (by simpa using hu'),?_⟩
  ·have e1:its.toArray[j]=u:=by simpa using hje
   rw [e1,eqU_of ru (flat_at fys hz)]
   exact hzj
  ·intro m hm hmj
   have hml:m < its.length:=by simpa using hm
   have hmy:m < ys.length:=by omega
   have hy':ys[m]? =some ys[m]:=List.getElem?_eq_getElem hmy
   obtain ⟨u2,hu2,ru2⟩:=rv.get hy'
   obtain ⟨_,hme⟩:=List.getElem?_eq_some_iff.mp hu2
   have e1:its.toArray[m]=u2:=by simpa using hme
   rw [e1,eqU_of ru2 (flat_at fys hy')]
   exact hno m _ hmj hy'
  ·exact ⟨.int (j:Nat),H,I.tok _,⟨_,rfl⟩,q⟩
def tNotT (K:PySem.W.Frag) (ta:TE):TE:=fun σ H Q=>ta σ H fun x H'=>∃k,TruV K x H' k/\Q (.bl (!k)) H'
theorem pe_notT {e:Expr} {ta:TE} {pos:Pos} (ha:PE X e ta):PE X (.UnaryOp .Not e pos) (tNotT X.K ta):=by
 intro pins s σ H Q I h
 refine UnaryOp_ (thn (ha pins s σ H _ I h) fun v s1 ⟨x,H1,I1,r1,q1⟩=>?_)
 obtain ⟨k,hk,q⟩:=q1
 refine not_of (thn (tru_ok pins s1 σ H1 x v (fun b H2=>Q (.bl (!b)) H2) I1 r1 ⟨k,hk,q⟩) fun b s2 h2=>?_)
 obtain ⟨H2,I2,q2⟩:=h2
 exact ⟨.bl (!b),H2,I2,rfl,q2⟩
theorem pe_fldK {K:PySem.W.Frag} {e:Expr} {f:Str} {pos:Pos} {ta:TE} (hK:X.K=K) (he:PE X e ta) (hb:attributeBase e f X.env (eval e X.env)=eval e X.env):PE X (.Attribute e f pos) (tFld K ta f):=by
 subst hK
 exact pe_fld he hb
theorem pe_notTK {K:PySem.W.Frag} {e:Expr} {ta:TE} {pos:Pos} (hK:X.K=K) (ha:PE X e ta):PE X (.UnaryOp .Not e pos) (tNotT K ta):=by
 subst hK
 exact pe_notT ha
end
end XL
namespace Q
open PySem PySem.Spec PyProof.Rows L2 XL
open Quire (Sign Word Sig Gath Fate)
open QuireCopies (Line)
def top (i:Nat):Stmt:=PySem.Challenge.pw_quirecopies_s04_count.main.body.getD i (.Pass ⟨0,0,0,0⟩)
abbrev s_15:Stmt:=inClass (top 1) 0
abbrev n_15:List Str:= ["self","place"]
theorem rm {j k:Nat} {A:Around} (r:L2.Room k A) (h:j<=k:=by decide):L2.Room j A:=r.mono h
local macro_rules | `(tactic| walk_at "sc") => `(tactic| exact ⟨rfl, rfl, rfl, by decide +kernel, rfl, by decide +kernel, by decide +kernel⟩)
theorem sc_15:FnScope n_15 ["self","place"] (defScope s_15):=by walk_at "sc"
abbrev s_14:Stmt:=inClass (top 2) 0
abbrev n_14:List Str:= ["self","signature"]
theorem sc_14:FnScope n_14 ["self","signature"] (defScope s_14):=by walk_at "sc"
abbrev s_37:Stmt:=top 12
abbrev n_37:List Str:= ["signs","waiting","sign","partner"]
theorem sc_37:FnScope n_37 ["signs"] (defScope s_37):=by walk_at "sc"
abbrev s_62:Stmt:=top 13
abbrev n_62:List Str:= ["signs","sign"]
theorem sc_62:FnScope n_62 ["signs"] (defScope s_62):=by walk_at "sc"
abbrev s_136:Stmt:=top 14
abbrev n_136:List Str:= ["signs","sign"]
theorem sc_136:FnScope n_136 ["signs"] (defScope s_136):=by walk_at "sc"
abbrev s_51:Stmt:=top 33
abbrev n_51:List Str:= ["number","digits","figure"]
theorem sc_51:FnScope n_51 ["number","digits"] (defScope s_51):=by walk_at "sc"
abbrev s_78:Stmt:=top 38
abbrev n_78:List Str:= ["sign"]
theorem sc_78:FnScope n_78 ["sign"] (defScope s_78):=by walk_at "sc"
abbrev s_3:Stmt:=top 39
abbrev n_3:List Str:= ["signature","times","sign"]
theorem sc_3:FnScope n_3 ["signature"] (defScope s_3):=by walk_at "sc"
abbrev s_21:Stmt:=top 40
abbrev n_21:List Str:= ["signature","text"]
theorem sc_21:FnScope n_21 ["signature"] (defScope s_21):=by walk_at "sc"
abbrev s_60:Stmt:=inClass (top 47) 0
abbrev n_60:List Str:= ["self","signature","size","gap"]
theorem sc_60:FnScope n_60 ["self","signature","size"] (defScope s_60):=by walk_at "sc"
abbrev s_149:Stmt:=top 48
abbrev n_149:List Str:= ["number"]
theorem sc_149:FnScope n_149 ["number"] (defScope s_149):=by walk_at "sc"
abbrev s_1:Stmt:=top 49
abbrev n_1:List Str:= ["quires","quire"]
theorem sc_1:FnScope n_1 ["quires"] (defScope s_1):=by walk_at "sc"
abbrev s_137:Stmt:=top 50
abbrev n_137:List Str:= ["quire","signs"]
theorem sc_137:FnScope n_137 ["quire"] (defScope s_137):=by walk_at "sc"
abbrev s_162:Stmt:=top 51
abbrev n_162:List Str:= ["before","quire"]
theorem sc_162:FnScope n_162 ["before","quire"] (defScope s_162):=by walk_at "sc"
abbrev s_33:Stmt:=top 52
abbrev n_33:List Str:= ["quire","leaf"]
theorem sc_33:FnScope n_33 ["quire","leaf"] (defScope s_33):=by walk_at "sc"
abbrev s_68:Stmt:=top 53
abbrev n_68:List Str:= ["quire","leaf","state"]
theorem sc_68:FnScope n_68 ["quire","leaf","state"] (defScope s_68):=by walk_at "sc"
abbrev s_67:Stmt:=top 54
abbrev n_67:List Str:= ["quire","leaf"]
theorem sc_67:FnScope n_67 ["quire","leaf"] (defScope s_67):=by walk_at "sc"
abbrev s_65:Stmt:=top 55
abbrev n_65:List Str:= ["quire","leaf","state","in_front"]
theorem sc_65:FnScope n_65 ["quire","leaf"] (defScope s_65):=by walk_at "sc"
abbrev s_169:Stmt:=top 56
abbrev n_169:List Str:= ["quire","signs","leaf"]
theorem sc_169:FnScope n_169 ["quire"] (defScope s_169):=by walk_at "sc"
abbrev s_31:Stmt:=top 57
abbrev n_31:List Str:= ["quire","signs"]
theorem sc_31:FnScope n_31 ["quire"] (defScope s_31):=by walk_at "sc"
abbrev s_52:Stmt:=top 59
abbrev n_52:List Str:= ["signs"]
theorem sc_52:FnScope n_52 ["signs"] (defScope s_52):=by walk_at "sc"
abbrev s_17:Stmt:=top 61
abbrev n_17:List Str:= ["row","lengths","to_keep","last","moved","place","number"]
theorem sc_17:FnScope n_17 ["row"] (defScope s_17):=by walk_at "sc"
abbrev s_20:Stmt:=top 62
abbrev n_20:List Str:= ["row","lengths","place","behind","later"]
theorem sc_20:FnScope n_20 ["row"] (defScope s_20):=by walk_at "sc"
abbrev s_135:Stmt:=top 63
abbrev n_135:List Str:= ["row","lengths","start","last","many","place"]
theorem sc_135:FnScope n_135 ["row","lengths","start","last","many"] (defScope s_135):=by walk_at "sc"
abbrev s_16:Stmt:=top 65
abbrev n_16:List Str:= ["book","copy"]
theorem sc_16:FnScope n_16 ["book","copy"] (defScope s_16):=by walk_at "sc"
abbrev s_134:Stmt:=top 66
abbrev n_134:List Str:= ["book","copy","sizes","quire"]
theorem sc_134:FnScope n_134 ["book","copy"] (defScope s_134):=by walk_at "sc"
abbrev s_63:Stmt:=top 67
abbrev n_63:List Str:= ["book","copy","held","lacking","quire","signature"]
theorem sc_63:FnScope n_63 ["book","copy"] (defScope s_63):=by walk_at "sc"
abbrev s_36:Stmt:=top 68
abbrev n_36:List Str:= ["book","copy","held","quire","lines"]
theorem sc_36:FnScope n_36 ["book","copy"] (defScope s_36):=by walk_at "sc"
abbrev s_53:Stmt:=top 69
abbrev n_53:List Str:= ["was","now","lines","leaf"]
theorem sc_53:FnScope n_53 ["was","now"] (defScope s_53):=by walk_at "sc"
abbrev s_64:Stmt:=top 70
abbrev n_64:List Str:= ["was","now","leaf","state"]
theorem sc_64:FnScope n_64 ["was","now","leaf"] (defScope s_64):=by walk_at "sc"
abbrev s_77:Stmt:=top 71
abbrev n_77:List Str:= ["was","now","gap","signs","told"]
theorem sc_77:FnScope n_77 ["was","now","gap"] (defScope s_77):=by walk_at "sc"
abbrev s_32:Stmt:=top 72
abbrev n_32:List Str:= ["signature","number"]
theorem sc_32:FnScope n_32 ["signature","number"] (defScope s_32):=by walk_at "sc"
abbrev s_69:Stmt:=top 73
abbrev n_69:List Str:= ["book","copy","places","place","quire","row"]
theorem sc_69:FnScope n_69 ["book","copy"] (defScope s_69):=by walk_at "sc"
abbrev s_79:Stmt:=top 74
abbrev n_79:List Str:= ["copy","place","line"]
theorem sc_79:FnScope n_79 ["copy","place"] (defScope s_79):=by walk_at "sc"
abbrev s_41:Stmt:=inClass (top 77) 0
abbrev n_41:List Str:= ["self","chars","place","end"]
theorem sc_41:FnScope n_41 ["self","chars","place","end"] (defScope s_41):=by walk_at "sc"
abbrev s_42:Stmt:=inClass (top 77) 1
abbrev n_42:List Str:= ["self"]
theorem sc_42:FnScope n_42 ["self"] (defScope s_42):=by walk_at "sc"
abbrev s_43:Stmt:=inClass (top 77) 2
abbrev n_43:List Str:= ["self"]
theorem sc_43:FnScope n_43 ["self"] (defScope s_43):=by walk_at "sc"
abbrev s_44:Stmt:=inClass (top 77) 3
abbrev n_44:List Str:= ["self","char"]
theorem sc_44:FnScope n_44 ["self","char"] (defScope s_44):=by walk_at "sc"
abbrev s_54:Stmt:=top 78
abbrev n_54:List Str:= ["cursor","digits","number","length"]
theorem sc_54:FnScope n_54 ["cursor","digits"] (defScope s_54):=by walk_at "sc"
abbrev s_19:Stmt:=top 79
abbrev n_19:List Str:= ["cursor","first","times","is_told","sign"]
theorem sc_19:FnScope n_19 ["cursor"] (defScope s_19):=by walk_at "sc"
abbrev s_55:Stmt:=top 80
abbrev n_55:List Str:= ["cursor","number"]
theorem sc_55:FnScope n_55 ["cursor"] (defScope s_55):=by walk_at "sc"
abbrev s_2:Stmt:=top 81
abbrev n_2:List Str:= ["cursor","signs"]
theorem sc_2:FnScope n_2 ["cursor"] (defScope s_2):=by walk_at "sc"
abbrev s_39:Stmt:=top 83
abbrev n_39:List Str:= ["chars","place","end","cursor","quires","known"]
theorem sc_39:FnScope n_39 ["chars","place","end"] (defScope s_39):=by walk_at "sc"
abbrev s_80:Stmt:=top 84
abbrev n_80:List Str:= ["cursor","quires","known","first","signatures","size","added","signature"]
theorem sc_80:FnScope n_80 ["cursor","quires","known"] (defScope s_80):=by walk_at "sc"
abbrev s_0:Stmt:=top 85
abbrev n_0:List Str:= ["cursor","known","first","signature","signatures","last"]
theorem sc_0:FnScope n_0 ["cursor","known"] (defScope s_0):=by walk_at "sc"
abbrev s_66:Stmt:=top 86
abbrev n_66:List Str:= ["signature","known","first"]
theorem sc_66:FnScope n_66 ["signature","known","first"] (defScope s_66):=by walk_at "sc"
abbrev s_82:Stmt:=top 87
abbrev n_82:List Str:= ["cursor","first","size"]
theorem sc_82:FnScope n_82 ["cursor"] (defScope s_82):=by walk_at "sc"
abbrev s_70:Stmt:=top 88
abbrev n_70:List Str:= ["cursor","quire","bracket","before"]
theorem sc_70:FnScope n_70 ["cursor","quire"] (defScope s_70):=by walk_at "sc"
abbrev s_81:Stmt:=top 89
abbrev n_81:List Str:= ["cursor","quire","before"]
theorem sc_81:FnScope n_81 ["cursor","quire","before"] (defScope s_81):=by walk_at "sc"
abbrev s_18:Stmt:=top 90
abbrev n_18:List Str:= ["cursor","quire","before","state","first","leaf","rank"]
theorem sc_18:FnScope n_18 ["cursor","quire","before","state"] (defScope s_18):=by walk_at "sc"
abbrev s_34:Stmt:=top 91
abbrev n_34:List Str:= ["cursor","quire","before","first","gap","rank","signs"]
theorem sc_34:FnScope n_34 ["cursor","quire","before"] (defScope s_34):=by walk_at "sc"
abbrev s_50:Stmt:=top 92
abbrev n_50:List Str:= ["before","rank"]
theorem sc_50:FnScope n_50 ["before","rank"] (defScope s_50):=by walk_at "sc"
abbrev s_168:Stmt:=top 94
abbrev n_168:List Str:= ["t","u","book","copy","lines"]
theorem sc_168:FnScope n_168 ["t","u"] (defScope s_168):=by walk_at "sc"
abbrev s_161:Stmt:=top 95
abbrev n_161:List Str:= ["t","u","answer","text"]
theorem sc_161:FnScope n_161 ["t","u"] (defScope s_161):=by walk_at "sc"
abbrev s_38:Stmt:=top 96
abbrev n_38:List Str:= ["lines","text","line"]
theorem sc_38:FnScope n_38 ["lines"] (defScope s_38):=by walk_at "sc"
abbrev s_56:Stmt:=top 97
abbrev n_56:List Str:= ["text"]
theorem sc_56:FnScope n_56 ["text"] (defScope s_56):=by walk_at "sc"
structure Adr where
 c_76:Addr
 c_74:Addr
 c_157:Addr
 c_150:Addr
 f_15:Addr
 d_15:FuncData
 f_14:Addr
 d_14:FuncData
 f_37:Addr
 d_37:FuncData
 f_62:Addr
 d_62:FuncData
 f_136:Addr
 d_136:FuncData
 f_51:Addr
 d_51:FuncData
 f_78:Addr
 d_78:FuncData
 f_3:Addr
 d_3:FuncData
 f_21:Addr
 d_21:FuncData
 f_60:Addr
 d_60:FuncData
 f_149:Addr
 d_149:FuncData
 f_1:Addr
 d_1:FuncData
 f_137:Addr
 d_137:FuncData
 f_162:Addr
 d_162:FuncData
 f_33:Addr
 d_33:FuncData
 f_68:Addr
 d_68:FuncData
 f_67:Addr
 d_67:FuncData
 f_65:Addr
 d_65:FuncData
 f_169:Addr
 d_169:FuncData
 f_31:Addr
 d_31:FuncData
 f_52:Addr
 d_52:FuncData
 f_17:Addr
 d_17:FuncData
 f_20:Addr
 d_20:FuncData
 f_135:Addr
 d_135:FuncData
 f_16:Addr
 d_16:FuncData
 f_134:Addr
 d_134:FuncData
 f_63:Addr
 d_63:FuncData
 f_36:Addr
 d_36:FuncData
 f_53:Addr
 d_53:FuncData
 f_64:Addr
 d_64:FuncData
 f_77:Addr
 d_77:FuncData
 f_32:Addr
 d_32:FuncData
 f_69:Addr
 d_69:FuncData
 f_79:Addr
 d_79:FuncData
 f_41:Addr
 d_41:FuncData
 f_42:Addr
 d_42:FuncData
 f_43:Addr
 d_43:FuncData
 f_44:Addr
 d_44:FuncData
 f_54:Addr
 d_54:FuncData
 f_19:Addr
 d_19:FuncData
 f_55:Addr
 d_55:FuncData
 f_2:Addr
 d_2:FuncData
 f_39:Addr
 d_39:FuncData
 f_80:Addr
 d_80:FuncData
 f_0:Addr
 d_0:FuncData
 f_66:Addr
 d_66:FuncData
 f_82:Addr
 d_82:FuncData
 f_70:Addr
 d_70:FuncData
 f_81:Addr
 d_81:FuncData
 f_18:Addr
 d_18:FuncData
 f_34:Addr
 d_34:FuncData
 f_50:Addr
 d_50:FuncData
 f_168:Addr
 d_168:FuncData
 f_161:Addr
 d_161:FuncData
 f_38:Addr
 d_38:FuncData
 f_56:Addr
 d_56:FuncData
 t_48:Addr
 t_49:Addr
 t_151:Addr
 t_27:Addr
 t_159:Addr
abbrev v_48:List Int:= [124,40,41,91,93]
abbrev v_49:List Int:= [61,247,8722]
abbrev v_151:List Int:= [48,49,50,51,52,53,54,55,56,57]
abbrev v_27:List Int:= [8304,185,178,179,8308,8309,8310,8311,8312,8313]
abbrev v_159:List Int:= [65,66,67,68,69,70,71,72,73,75,76,77,78,79,80,81,82,83,84,86,88,89,90,97,98,99,100,101,102,103,104,105,107,108,109,110,111,112,113,114,115,116,118,120,121,122,960,967,42,8224]
structure Txt (K:W.Frag) (mg:Str->Option Value) (a:Adr):Prop where
 m_76:mg "TextFault"=some (.ref a.c_76)
 xc_76:XCls K a.c_76 a.f_15 "place"
 m_74:mg "NotOfBook"=some (.ref a.c_74)
 xc_74:XCls K a.c_74 a.f_14 "signature"
 m_157:mg "Quire"=some (.ref a.c_157)
 cl_157:Cls K a.c_157
 mk_157:Mk K a.c_157 a.f_60
 no_Quire_signature:NoAttr K a.c_157 "signature"
 no_Quire_size:NoAttr K a.c_157 "size"
 no_Quire_leaves:NoAttr K a.c_157 "leaves"
 no_Quire_gaps:NoAttr K a.c_157 "gaps"
 m_150:mg "Cursor"=some (.ref a.c_150)
 cl_150:Cls K a.c_150
 mk_150:Mk K a.c_150 a.f_41
 no_Cursor_chars:NoAttr K a.c_150 "chars"
 no_Cursor_place:NoAttr K a.c_150 "place"
 no_Cursor_end:NoAttr K a.c_150 "end"
 u_15:Fun K "__init__" "TextFault.__init__" s_15 a.f_15 a.d_15
 u_14:Fun K "__init__" "NotOfBook.__init__" s_14 a.f_14 a.d_14
 u_37:Fun K "is_gathering" "is_gathering" s_37 a.f_37 a.d_37
 m_37:mg "is_gathering"=some (.ref a.f_37)
 u_62:Fun K "is_counted" "is_counted" s_62 a.f_62 a.d_62
 m_62:mg "is_counted"=some (.ref a.f_62)
 u_136:Fun K "has_leaf" "has_leaf" s_136 a.f_136 a.d_136
 m_136:mg "has_leaf"=some (.ref a.f_136)
 u_51:Fun K "number_text" "number_text" s_51 a.f_51 a.d_51
 m_51:mg "number_text"=some (.ref a.f_51)
 u_78:Fun K "is_letter" "is_letter" s_78 a.f_78 a.d_78
 m_78:mg "is_letter"=some (.ref a.f_78)
 u_3:Fun K "signature_behind" "signature_behind" s_3 a.f_3 a.d_3
 m_3:mg "signature_behind"=some (.ref a.f_3)
 u_21:Fun K "signature_text" "signature_text" s_21 a.f_21 a.d_21
 m_21:mg "signature_text"=some (.ref a.f_21)
 u_60:Fun K "__init__" "Quire.__init__" s_60 a.f_60 a.d_60
 u_149:Fun K "is_size" "is_size" s_149 a.f_149 a.d_149
 m_149:mg "is_size"=some (.ref a.f_149)
 u_1:Fun K "sizes_by_signature" "sizes_by_signature" s_1 a.f_1 a.d_1
 m_1:mg "sizes_by_signature"=some (.ref a.f_1)
 u_137:Fun K "is_plain" "is_plain" s_137 a.f_137 a.d_137
 m_137:mg "is_plain"=some (.ref a.f_137)
 u_162:Fun K "joins" "joins" s_162 a.f_162 a.d_162
 m_162:mg "joins"=some (.ref a.f_162)
 u_33:Fun K "partner_state" "partner_state" s_33 a.f_33 a.d_33
 m_33:mg "partner_state"=some (.ref a.f_33)
 u_68:Fun K "may_become" "may_become" s_68 a.f_68 a.d_68
 m_68:mg "may_become"=some (.ref a.f_68)
 u_67:Fun K "may_be_cut" "may_be_cut" s_67 a.f_67 a.d_67
 m_67:mg "may_be_cut"=some (.ref a.f_67)
 u_65:Fun K "leaf_signs" "leaf_signs" s_65 a.f_65 a.d_65
 m_65:mg "leaf_signs"=some (.ref a.f_65)
 u_169:Fun K "word" "word" s_169 a.f_169 a.d_169
 m_169:mg "word"=some (.ref a.f_169)
 u_31:Fun K "has_good_word" "has_good_word" s_31 a.f_31 a.d_31
 m_31:mg "has_good_word"=some (.ref a.f_31)
 u_52:Fun K "put_in_text" "put_in_text" s_52 a.f_52 a.d_52
 m_52:mg "put_in_text"=some (.ref a.f_52)
 u_17:Fun K "places_to_move" "places_to_move" s_17 a.f_17 a.d_17
 m_17:mg "places_to_move"=some (.ref a.f_17)
 u_20:Fun K "rising_lengths" "rising_lengths" s_20 a.f_20 a.d_20
 m_20:mg "rising_lengths"=some (.ref a.f_20)
 u_135:Fun K "can_keep" "can_keep" s_135 a.f_135 a.d_135
 m_135:mg "can_keep"=some (.ref a.f_135)
 u_16:Fun K "accident_lines" "accident_lines" s_16 a.f_16 a.d_16
 m_16:mg "accident_lines"=some (.ref a.f_16)
 u_134:Fun K "ask_book" "ask_book" s_134 a.f_134 a.d_134
 m_134:mg "ask_book"=some (.ref a.f_134)
 u_63:Fun K "lack_lines" "lack_lines" s_63 a.f_63 a.d_63
 m_63:mg "lack_lines"=some (.ref a.f_63)
 u_36:Fun K "change_lines" "change_lines" s_36 a.f_36 a.d_36
 m_36:mg "change_lines"=some (.ref a.f_36)
 u_53:Fun K "quire_lines" "quire_lines" s_53 a.f_53 a.d_53
 m_53:mg "quire_lines"=some (.ref a.f_53)
 u_64:Fun K "leaf_lines" "leaf_lines" s_64 a.f_64 a.d_64
 m_64:mg "leaf_lines"=some (.ref a.f_64)
 u_77:Fun K "gap_lines" "gap_lines" s_77 a.f_77 a.d_77
 m_77:mg "gap_lines"=some (.ref a.f_77)
 u_32:Fun K "numbered_text" "numbered_text" s_32 a.f_32 a.d_32
 m_32:mg "numbered_text"=some (.ref a.f_32)
 u_69:Fun K "move_lines" "move_lines" s_69 a.f_69 a.d_69
 m_69:mg "move_lines"=some (.ref a.f_69)
 u_79:Fun K "move_line" "move_line" s_79 a.f_79 a.d_79
 m_79:mg "move_line"=some (.ref a.f_79)
 u_41:Fun K "__init__" "Cursor.__init__" s_41 a.f_41 a.d_41
 u_42:Fun K "peek" "Cursor.peek" s_42 a.f_42 a.d_42
 me_42:Meth K a.c_150 "peek" a.f_42
 u_43:Fun K "step" "Cursor.step" s_43 a.f_43 a.d_43
 me_43:Meth K a.c_150 "step" a.f_43
 u_44:Fun K "take" "Cursor.take" s_44 a.f_44 a.d_44
 me_44:Meth K a.c_150 "take" a.f_44
 u_54:Fun K "read_number" "read_number" s_54 a.f_54 a.d_54
 m_54:mg "read_number"=some (.ref a.f_54)
 u_19:Fun K "read_signature" "read_signature" s_19 a.f_19 a.d_19
 m_19:mg "read_signature"=some (.ref a.f_19)
 u_55:Fun K "read_put_in" "read_put_in" s_55 a.f_55 a.d_55
 m_55:mg "read_put_in"=some (.ref a.f_55)
 u_2:Fun K "read_put_in_signs" "read_put_in_signs" s_2 a.f_2 a.d_2
 m_2:mg "read_put_in_signs"=some (.ref a.f_2)
 u_39:Fun K "read_formula" "read_formula" s_39 a.f_39 a.d_39
 m_39:mg "read_formula"=some (.ref a.f_39)
 u_80:Fun K "read_item" "read_item" s_80 a.f_80 a.d_80
 m_80:mg "read_item"=some (.ref a.f_80)
 u_0:Fun K "read_item_signatures" "read_item_signatures" s_0 a.f_0 a.d_0
 m_0:mg "read_item_signatures"=some (.ref a.f_0)
 u_66:Fun K "make_known" "make_known" s_66 a.f_66 a.d_66
 m_66:mg "make_known"=some (.ref a.f_66)
 u_82:Fun K "read_size" "read_size" s_82 a.f_82 a.d_82
 m_82:mg "read_size"=some (.ref a.f_82)
 u_70:Fun K "read_notes" "read_notes" s_70 a.f_70 a.d_70
 m_70:mg "read_notes"=some (.ref a.f_70)
 u_81:Fun K "read_note" "read_note" s_81 a.f_81 a.d_81
 m_81:mg "read_note"=some (.ref a.f_81)
 u_18:Fun K "read_leaf_note" "read_leaf_note" s_18 a.f_18 a.d_18
 m_18:mg "read_leaf_note"=some (.ref a.f_18)
 u_34:Fun K "read_gap_note" "read_gap_note" s_34 a.f_34 a.d_34
 m_34:mg "read_gap_note"=some (.ref a.f_34)
 u_50:Fun K "is_in_order" "is_in_order" s_50 a.f_50 a.d_50
 m_50:mg "is_in_order"=some (.ref a.f_50)
 u_168:Fun K "tell" "tell" s_168 a.f_168 a.d_168
 m_168:mg "tell"=some (.ref a.f_168)
 u_161:Fun K "count" "count" s_161 a.f_161 a.d_161
 m_161:mg "count"=some (.ref a.f_161)
 u_38:Fun K "lines_answer" "lines_answer" s_38 a.f_38 a.d_38
 m_38:mg "lines_answer"=some (.ref a.f_38)
 u_56:Fun K "text_answer" "text_answer" s_56 a.f_56 a.d_56
 m_56:mg "text_answer"=some (.ref a.f_56)
 k_153:∃t,mg "ALONE"=some (.int 124 t)
 k_58:∃t,mg "LEAF_FRONT"=some (.int 40 t)
 k_71:∃t,mg "LEAF_BACK"=some (.int 41 t)
 k_61:∃t,mg "STUB_FRONT"=some (.int 91 t)
 k_75:∃t,mg "STUB_BACK"=some (.int 93 t)
 k_46:∃t,mg "MOST_PLACES"=some (.int 21 t)
 k_35:∃t,mg "MOST_COUNTED"=some (.int 9 t)
 k_72:∃t,mg "LINE_FEED"=some (.int 10 t)
 k_154:∃t,mg "BLANK"=some (.int 32 t)
 k_155:∃t,mg "COMMA"=some (.int 44 t)
 k_167:∃t,mg "PLUS"=some (.int 43 t)
 k_165:∃t,mg "LEFT"=some (.int 40 t)
 k_158:∃t,mg "RIGHT"=some (.int 41 t)
 k_163:∃t,mg "DASH"=some (.int 8211 t)
 k_156:∃t,mg "MINUS"=some (.int 8722 t)
 k_152:∃t,mg "DIVIDE"=some (.int 247 t)
 k_57:∃t,mg "ANGLE_LEFT"=some (.int 10216 t)
 k_40:∃t,mg "ANGLE_RIGHT"=some (.int 10217 t)
 k_160:∃t,mg "TILDE"=some (.int 126 t)
 k_138:∃t,mg "GREATER"=some (.int 62 t)
 k_171:∃t,mg "DOT"=some (.int 46 t)
 k_83:∃t,mg "ALPHABET"=some (.int 23 t)
 k_59:∃t,mg "MOST_TIMES"=some (.int 99 t)
 k_164:∃t,mg "KEPT"=some (.int 0 t)
 k_170:∃t,mg "CUT"=some (.int 1 t)
 k_166:∃t,mg "LOST"=some (.int 2 t)
 k_47:∃t,mg "MOST_QUIRES"=some (.int 48 t)
 k_73:∃t,mg "MOST_SIZE"=some (.int 20 t)
 k_45:∃t,mg "MOST_DIGITS"=some (.int 7 t)
 m_48:mg "PLACE_SIGNS"=some (.ref a.t_48)
 q_48:∀H,SqT K H a.t_48 (v_48.map V.int)
 w_48:∃o,K.lookup a.t_48=some o/\o.cls= .type "tuple"/\o.dict=none
 m_49:mg "STATE_MARKS"=some (.ref a.t_49)
 q_49:∀H,SqT K H a.t_49 (v_49.map V.int)
 w_49:∃o,K.lookup a.t_49=some o/\o.cls= .type "tuple"/\o.dict=none
 m_151:mg "DIGITS"=some (.ref a.t_151)
 q_151:∀H,SqT K H a.t_151 (v_151.map V.int)
 w_151:∃o,K.lookup a.t_151=some o/\o.cls= .type "tuple"/\o.dict=none
 m_27:mg "RAISED_DIGITS"=some (.ref a.t_27)
 q_27:∀H,SqT K H a.t_27 (v_27.map V.int)
 w_27:∃o,K.lookup a.t_27=some o/\o.cls= .type "tuple"/\o.dict=none
 m_159:mg "SIGNS"=some (.ref a.t_159)
 q_159:∀H,SqT K H a.t_159 (v_159.map V.int)
 w_159:∃o,K.lookup a.t_159=some o/\o.cls= .type "tuple"/\o.dict=none
 b_len:mg "len"=none
 b_range:mg "range"=none
 b_all:mg "all"=none
 b_any:mg "any"=none
 b_list:mg "list"=none
 b_dict:mg "dict"=none
 b_str:mg "str"=none
 b_int:mg "int"=none
 b_enumerate:mg "enumerate"=none
 b_max:mg "max"=none
 b_min:mg "min"=none
 ne_TextFault_74:a.c_76≠a.c_74
section
variable {K:W.Frag} {mg:Str->Option Value} {a:Adr}
theorem b_15 (T:Txt K mg a):Binds K a.d_15 ["self","place"] []:=T.u_15.binds fun _ _ _ _ _ _ us hl=>match us,hl with| [_,_],_=>rfl
theorem b_14 (T:Txt K mg a):Binds K a.d_14 ["self","signature"] []:=T.u_14.binds fun _ _ _ _ _ _ us hl=>match us,hl with| [_,_],_=>rfl
theorem b_37 (T:Txt K mg a):Binds K a.d_37 ["signs"] []:=T.u_37.binds fun _ _ _ _ _ _ us hl=>match us,hl with| [_],_=>rfl
theorem b_62 (T:Txt K mg a):Binds K a.d_62 ["signs"] []:=T.u_62.binds fun _ _ _ _ _ _ us hl=>match us,hl with| [_],_=>rfl
theorem b_136 (T:Txt K mg a):Binds K a.d_136 ["signs"] []:=T.u_136.binds fun _ _ _ _ _ _ us hl=>match us,hl with| [_],_=>rfl
theorem b_51 (T:Txt K mg a):Binds K a.d_51 ["number","digits"] []:=T.u_51.binds fun _ _ _ _ _ _ us hl=>match us,hl with| [_,_],_=>rfl
theorem b_78 (T:Txt K mg a):Binds K a.d_78 ["sign"] []:=T.u_78.binds fun _ _ _ _ _ _ us hl=>match us,hl with| [_],_=>rfl
theorem b_3 (T:Txt K mg a):Binds K a.d_3 ["signature"] []:=T.u_3.binds fun _ _ _ _ _ _ us hl=>match us,hl with| [_],_=>rfl
theorem b_21 (T:Txt K mg a):Binds K a.d_21 ["signature"] []:=T.u_21.binds fun _ _ _ _ _ _ us hl=>match us,hl with| [_],_=>rfl
theorem b_60 (T:Txt K mg a):Binds K a.d_60 ["self","signature","size"] []:=T.u_60.binds fun _ _ _ _ _ _ us hl=>match us,hl with| [_,_,_],_=>rfl
theorem b_149 (T:Txt K mg a):Binds K a.d_149 ["number"] []:=T.u_149.binds fun _ _ _ _ _ _ us hl=>match us,hl with| [_],_=>rfl
theorem b_1 (T:Txt K mg a):Binds K a.d_1 ["quires"] []:=T.u_1.binds fun _ _ _ _ _ _ us hl=>match us,hl with| [_],_=>rfl
theorem b_137 (T:Txt K mg a):Binds K a.d_137 ["quire"] []:=T.u_137.binds fun _ _ _ _ _ _ us hl=>match us,hl with| [_],_=>rfl
theorem b_162 (T:Txt K mg a):Binds K a.d_162 ["before","quire"] []:=T.u_162.binds fun _ _ _ _ _ _ us hl=>match us,hl with| [_,_],_=>rfl
theorem b_33 (T:Txt K mg a):Binds K a.d_33 ["quire","leaf"] []:=T.u_33.binds fun _ _ _ _ _ _ us hl=>match us,hl with| [_,_],_=>rfl
theorem b_68 (T:Txt K mg a):Binds K a.d_68 ["quire","leaf","state"] []:=T.u_68.binds fun _ _ _ _ _ _ us hl=>match us,hl with| [_,_,_],_=>rfl
theorem b_67 (T:Txt K mg a):Binds K a.d_67 ["quire","leaf"] []:=T.u_67.binds fun _ _ _ _ _ _ us hl=>match us,hl with| [_,_],_=>rfl
theorem b_65 (T:Txt K mg a):Binds K a.d_65 ["quire","leaf"] []:=T.u_65.binds fun _ _ _ _ _ _ us hl=>match us,hl with| [_,_],_=>rfl
theorem b_169 (T:Txt K mg a):Binds K a.d_169 ["quire"] []:=T.u_169.binds fun _ _ _ _ _ _ us hl=>match us,hl with| [_],_=>rfl
theorem b_31 (T:Txt K mg a):Binds K a.d_31 ["quire"] []:=T.u_31.binds fun _ _ _ _ _ _ us hl=>match us,hl with| [_],_=>rfl
theorem b_52 (T:Txt K mg a):Binds K a.d_52 ["signs"] []:=T.u_52.binds fun _ _ _ _ _ _ us hl=>match us,hl with| [_],_=>rfl
theorem b_17 (T:Txt K mg a):Binds K a.d_17 ["row"] []:=T.u_17.binds fun _ _ _ _ _ _ us hl=>match us,hl with| [_],_=>rfl
theorem b_20 (T:Txt K mg a):Binds K a.d_20 ["row"] []:=T.u_20.binds fun _ _ _ _ _ _ us hl=>match us,hl with| [_],_=>rfl
theorem b_135 (T:Txt K mg a):Binds K a.d_135 ["row","lengths","start","last","many"] []:=T.u_135.binds fun _ _ _ _ _ _ us hl=>match us,hl with| [_,_,_,_,_],_=>rfl
theorem b_16 (T:Txt K mg a):Binds K a.d_16 ["book","copy"] []:=T.u_16.binds fun _ _ _ _ _ _ us hl=>match us,hl with| [_,_],_=>rfl
theorem b_134 (T:Txt K mg a):Binds K a.d_134 ["book","copy"] []:=T.u_134.binds fun _ _ _ _ _ _ us hl=>match us,hl with| [_,_],_=>rfl
theorem b_63 (T:Txt K mg a):Binds K a.d_63 ["book","copy"] []:=T.u_63.binds fun _ _ _ _ _ _ us hl=>match us,hl with| [_,_],_=>rfl
theorem b_36 (T:Txt K mg a):Binds K a.d_36 ["book","copy"] []:=T.u_36.binds fun _ _ _ _ _ _ us hl=>match us,hl with| [_,_],_=>rfl
theorem b_53 (T:Txt K mg a):Binds K a.d_53 ["was","now"] []:=T.u_53.binds fun _ _ _ _ _ _ us hl=>match us,hl with| [_,_],_=>rfl
theorem b_64 (T:Txt K mg a):Binds K a.d_64 ["was","now","leaf"] []:=T.u_64.binds fun _ _ _ _ _ _ us hl=>match us,hl with| [_,_,_],_=>rfl
theorem b_77 (T:Txt K mg a):Binds K a.d_77 ["was","now","gap"] []:=T.u_77.binds fun _ _ _ _ _ _ us hl=>match us,hl with| [_,_,_],_=>rfl
theorem b_32 (T:Txt K mg a):Binds K a.d_32 ["signature","number"] []:=T.u_32.binds fun _ _ _ _ _ _ us hl=>match us,hl with| [_,_],_=>rfl
theorem b_69 (T:Txt K mg a):Binds K a.d_69 ["book","copy"] []:=T.u_69.binds fun _ _ _ _ _ _ us hl=>match us,hl with| [_,_],_=>rfl
theorem b_79 (T:Txt K mg a):Binds K a.d_79 ["copy","place"] []:=T.u_79.binds fun _ _ _ _ _ _ us hl=>match us,hl with| [_,_],_=>rfl
theorem b_41 (T:Txt K mg a):Binds K a.d_41 ["self","chars","place","end"] []:=T.u_41.binds fun _ _ _ _ _ _ us hl=>match us,hl with| [_,_,_,_],_=>rfl
theorem b_42 (T:Txt K mg a):Binds K a.d_42 ["self"] []:=T.u_42.binds fun _ _ _ _ _ _ us hl=>match us,hl with| [_],_=>rfl
theorem b_43 (T:Txt K mg a):Binds K a.d_43 ["self"] []:=T.u_43.binds fun _ _ _ _ _ _ us hl=>match us,hl with| [_],_=>rfl
theorem b_44 (T:Txt K mg a):Binds K a.d_44 ["self","char"] []:=T.u_44.binds fun _ _ _ _ _ _ us hl=>match us,hl with| [_,_],_=>rfl
theorem b_54 (T:Txt K mg a):Binds K a.d_54 ["cursor","digits"] []:=T.u_54.binds fun _ _ _ _ _ _ us hl=>match us,hl with| [_,_],_=>rfl
theorem b_19 (T:Txt K mg a):Binds K a.d_19 ["cursor"] []:=T.u_19.binds fun _ _ _ _ _ _ us hl=>match us,hl with| [_],_=>rfl
theorem b_55 (T:Txt K mg a):Binds K a.d_55 ["cursor"] []:=T.u_55.binds fun _ _ _ _ _ _ us hl=>match us,hl with| [_],_=>rfl
theorem b_2 (T:Txt K mg a):Binds K a.d_2 ["cursor"] []:=T.u_2.binds fun _ _ _ _ _ _ us hl=>match us,hl with| [_],_=>rfl
theorem b_39 (T:Txt K mg a):Binds K a.d_39 ["chars","place","end"] []:=T.u_39.binds fun _ _ _ _ _ _ us hl=>match us,hl with| [_,_,_],_=>rfl
theorem b_80 (T:Txt K mg a):Binds K a.d_80 ["cursor","quires","known"] []:=T.u_80.binds fun _ _ _ _ _ _ us hl=>match us,hl with| [_,_,_],_=>rfl
theorem b_0 (T:Txt K mg a):Binds K a.d_0 ["cursor","known"] []:=T.u_0.binds fun _ _ _ _ _ _ us hl=>match us,hl with| [_,_],_=>rfl
theorem b_66 (T:Txt K mg a):Binds K a.d_66 ["signature","known","first"] []:=T.u_66.binds fun _ _ _ _ _ _ us hl=>match us,hl with| [_,_,_],_=>rfl
theorem b_82 (T:Txt K mg a):Binds K a.d_82 ["cursor"] []:=T.u_82.binds fun _ _ _ _ _ _ us hl=>match us,hl with| [_],_=>rfl
theorem b_70 (T:Txt K mg a):Binds K a.d_70 ["cursor","quire"] []:=T.u_70.binds fun _ _ _ _ _ _ us hl=>match us,hl with| [_,_],_=>rfl
theorem b_81 (T:Txt K mg a):Binds K a.d_81 ["cursor","quire","before"] []:=T.u_81.binds fun _ _ _ _ _ _ us hl=>match us,hl with| [_,_,_],_=>rfl
theorem b_18 (T:Txt K mg a):Binds K a.d_18 ["cursor","quire","before","state"] []:=T.u_18.binds fun _ _ _ _ _ _ us hl=>match us,hl with| [_,_,_,_],_=>rfl
theorem b_34 (T:Txt K mg a):Binds K a.d_34 ["cursor","quire","before"] []:=T.u_34.binds fun _ _ _ _ _ _ us hl=>match us,hl with| [_,_,_],_=>rfl
theorem b_50 (T:Txt K mg a):Binds K a.d_50 ["before","rank"] []:=T.u_50.binds fun _ _ _ _ _ _ us hl=>match us,hl with| [_,_],_=>rfl
theorem b_168 (T:Txt K mg a):Binds K a.d_168 ["t","u"] []:=T.u_168.binds fun _ _ _ _ _ _ us hl=>match us,hl with| [_,_],_=>rfl
theorem b_38 (T:Txt K mg a):Binds K a.d_38 ["lines"] []:=T.u_38.binds fun _ _ _ _ _ _ us hl=>match us,hl with| [_],_=>rfl
theorem b_56 (T:Txt K mg a):Binds K a.d_56 ["text"] []:=T.u_56.binds fun _ _ _ _ _ _ us hl=>match us,hl with| [_],_=>rfl
theorem g_153 {X:Cx} {pos:Pos} (T:Txt X.K X.mg a) (hg:Gl X "ALONE":=by rfl):PE X (.Name "ALONE" pos) (tC (.int 124)):=by obtain ⟨t,e⟩:=T.k_153;exact pe_glob hg e ⟨t,rfl⟩
theorem g_58 {X:Cx} {pos:Pos} (T:Txt X.K X.mg a) (hg:Gl X "LEAF_FRONT":=by rfl):PE X (.Name "LEAF_FRONT" pos) (tC (.int 40)):=by obtain ⟨t,e⟩:=T.k_58;exact pe_glob hg e ⟨t,rfl⟩
theorem g_71 {X:Cx} {pos:Pos} (T:Txt X.K X.mg a) (hg:Gl X "LEAF_BACK":=by rfl):PE X (.Name "LEAF_BACK" pos) (tC (.int 41)):=by obtain ⟨t,e⟩:=T.k_71;exact pe_glob hg e ⟨t,rfl⟩
theorem g_61 {X:Cx} {pos:Pos} (T:Txt X.K X.mg a) (hg:Gl X "STUB_FRONT":=by rfl):PE X (.Name "STUB_FRONT" pos) (tC (.int 91)):=by obtain ⟨t,e⟩:=T.k_61;exact pe_glob hg e ⟨t,rfl⟩
theorem g_75 {X:Cx} {pos:Pos} (T:Txt X.K X.mg a) (hg:Gl X "STUB_BACK":=by rfl):PE X (.Name "STUB_BACK" pos) (tC (.int 93)):=by obtain ⟨t,e⟩:=T.k_75;exact pe_glob hg e ⟨t,rfl⟩
theorem g_46 {X:Cx} {pos:Pos} (T:Txt X.K X.mg a) (hg:Gl X "MOST_PLACES":=by rfl):PE X (.Name "MOST_PLACES" pos) (tC (.int 21)):=by obtain ⟨t,e⟩:=T.k_46;exact pe_glob hg e ⟨t,rfl⟩
theorem g_35 {X:Cx} {pos:Pos} (T:Txt X.K X.mg a) (hg:Gl X "MOST_COUNTED":=by rfl):PE X (.Name "MOST_COUNTED" pos) (tC (.int 9)):=by obtain ⟨t,e⟩:=T.k_35;exact pe_glob hg e ⟨t,rfl⟩
theorem g_72 {X:Cx} {pos:Pos} (T:Txt X.K X.mg a) (hg:Gl X "LINE_FEED":=by rfl):PE X (.Name "LINE_FEED" pos) (tC (.int 10)):=by obtain ⟨t,e⟩:=T.k_72;exact pe_glob hg e ⟨t,rfl⟩
theorem g_154 {X:Cx} {pos:Pos} (T:Txt X.K X.mg a) (hg:Gl X "BLANK":=by rfl):PE X (.Name "BLANK" pos) (tC (.int 32)):=by obtain ⟨t,e⟩:=T.k_154;exact pe_glob hg e ⟨t,rfl⟩
theorem g_155 {X:Cx} {pos:Pos} (T:Txt X.K X.mg a) (hg:Gl X "COMMA":=by rfl):PE X (.Name "COMMA" pos) (tC (.int 44)):=by obtain ⟨t,e⟩:=T.k_155;exact pe_glob hg e ⟨t,rfl⟩
theorem g_167 {X:Cx} {pos:Pos} (T:Txt X.K X.mg a) (hg:Gl X "PLUS":=by rfl):PE X (.Name "PLUS" pos) (tC (.int 43)):=by obtain ⟨t,e⟩:=T.k_167;exact pe_glob hg e ⟨t,rfl⟩
theorem g_165 {X:Cx} {pos:Pos} (T:Txt X.K X.mg a) (hg:Gl X "LEFT":=by rfl):PE X (.Name "LEFT" pos) (tC (.int 40)):=by obtain ⟨t,e⟩:=T.k_165;exact pe_glob hg e ⟨t,rfl⟩
theorem g_158 {X:Cx} {pos:Pos} (T:Txt X.K X.mg a) (hg:Gl X "RIGHT":=by rfl):PE X (.Name "RIGHT" pos) (tC (.int 41)):=by obtain ⟨t,e⟩:=T.k_158;exact pe_glob hg e ⟨t,rfl⟩
theorem g_163 {X:Cx} {pos:Pos} (T:Txt X.K X.mg a) (hg:Gl X "DASH":=by rfl):PE X (.Name "DASH" pos) (tC (.int 8211)):=by obtain ⟨t,e⟩:=T.k_163;exact pe_glob hg e ⟨t,rfl⟩
theorem g_156 {X:Cx} {pos:Pos} (T:Txt X.K X.mg a) (hg:Gl X "MINUS":=by rfl):PE X (.Name "MINUS" pos) (tC (.int 8722)):=by obtain ⟨t,e⟩:=T.k_156;exact pe_glob hg e ⟨t,rfl⟩
theorem g_152 {X:Cx} {pos:Pos} (T:Txt X.K X.mg a) (hg:Gl X "DIVIDE":=by rfl):PE X (.Name "DIVIDE" pos) (tC (.int 247)):=by obtain ⟨t,e⟩:=T.k_152;exact pe_glob hg e ⟨t,rfl⟩
theorem g_57 {X:Cx} {pos:Pos} (T:Txt X.K X.mg a) (hg:Gl X "ANGLE_LEFT":=by rfl):PE X (.Name "ANGLE_LEFT" pos) (tC (.int 10216)):=by obtain ⟨t,e⟩:=T.k_57;exact pe_glob hg e ⟨t,rfl⟩
theorem g_40 {X:Cx} {pos:Pos} (T:Txt X.K X.mg a) (hg:Gl X "ANGLE_RIGHT":=by rfl):PE X (.Name "ANGLE_RIGHT" pos) (tC (.int 10217)):=by obtain ⟨t,e⟩:=T.k_40;exact pe_glob hg e ⟨t,rfl⟩
theorem g_160 {X:Cx} {pos:Pos} (T:Txt X.K X.mg a) (hg:Gl X "TILDE":=by rfl):PE X (.Name "TILDE" pos) (tC (.int 126)):=by obtain ⟨t,e⟩:=T.k_160;exact pe_glob hg e ⟨t,rfl⟩
theorem g_138 {X:Cx} {pos:Pos} (T:Txt X.K X.mg a) (hg:Gl X "GREATER":=by rfl):PE X (.Name "GREATER" pos) (tC (.int 62)):=by obtain ⟨t,e⟩:=T.k_138;exact pe_glob hg e ⟨t,rfl⟩
theorem g_171 {X:Cx} {pos:Pos} (T:Txt X.K X.mg a) (hg:Gl X "DOT":=by rfl):PE X (.Name "DOT" pos) (tC (.int 46)):=by obtain ⟨t,e⟩:=T.k_171;exact pe_glob hg e ⟨t,rfl⟩
theorem g_83 {X:Cx} {pos:Pos} (T:Txt X.K X.mg a) (hg:Gl X "ALPHABET":=by rfl):PE X (.Name "ALPHABET" pos) (tC (.int 23)):=by obtain ⟨t,e⟩:=T.k_83;exact pe_glob hg e ⟨t,rfl⟩
theorem g_59 {X:Cx} {pos:Pos} (T:Txt X.K X.mg a) (hg:Gl X "MOST_TIMES":=by rfl):PE X (.Name "MOST_TIMES" pos) (tC (.int 99)):=by obtain ⟨t,e⟩:=T.k_59;exact pe_glob hg e ⟨t,rfl⟩
theorem g_164 {X:Cx} {pos:Pos} (T:Txt X.K X.mg a) (hg:Gl X "KEPT":=by rfl):PE X (.Name "KEPT" pos) (tC (.int 0)):=by obtain ⟨t,e⟩:=T.k_164;exact pe_glob hg e ⟨t,rfl⟩
theorem g_170 {X:Cx} {pos:Pos} (T:Txt X.K X.mg a) (hg:Gl X "CUT":=by rfl):PE X (.Name "CUT" pos) (tC (.int 1)):=by obtain ⟨t,e⟩:=T.k_170;exact pe_glob hg e ⟨t,rfl⟩
theorem g_166 {X:Cx} {pos:Pos} (T:Txt X.K X.mg a) (hg:Gl X "LOST":=by rfl):PE X (.Name "LOST" pos) (tC (.int 2)):=by obtain ⟨t,e⟩:=T.k_166;exact pe_glob hg e ⟨t,rfl⟩
theorem g_47 {X:Cx} {pos:Pos} (T:Txt X.K X.mg a) (hg:Gl X "MOST_QUIRES":=by rfl):PE X (.Name "MOST_QUIRES" pos) (tC (.int 48)):=by obtain ⟨t,e⟩:=T.k_47;exact pe_glob hg e ⟨t,rfl⟩
theorem g_73 {X:Cx} {pos:Pos} (T:Txt X.K X.mg a) (hg:Gl X "MOST_SIZE":=by rfl):PE X (.Name "MOST_SIZE" pos) (tC (.int 20)):=by obtain ⟨t,e⟩:=T.k_73;exact pe_glob hg e ⟨t,rfl⟩
theorem g_45 {X:Cx} {pos:Pos} (T:Txt X.K X.mg a) (hg:Gl X "MOST_DIGITS":=by rfl):PE X (.Name "MOST_DIGITS" pos) (tC (.int 7)):=by obtain ⟨t,e⟩:=T.k_45;exact pe_glob hg e ⟨t,rfl⟩
theorem g_48 {X:Cx} {pos:Pos} (T:Txt X.K X.mg a) (hg:Gl X "PLACE_SIGNS":=by rfl):PE X (.Name "PLACE_SIGNS" pos) (tC (.ref a.t_48)):=pe_glob hg T.m_48 rfl
theorem g_49 {X:Cx} {pos:Pos} (T:Txt X.K X.mg a) (hg:Gl X "STATE_MARKS":=by rfl):PE X (.Name "STATE_MARKS" pos) (tC (.ref a.t_49)):=pe_glob hg T.m_49 rfl
theorem g_151 {X:Cx} {pos:Pos} (T:Txt X.K X.mg a) (hg:Gl X "DIGITS":=by rfl):PE X (.Name "DIGITS" pos) (tC (.ref a.t_151)):=pe_glob hg T.m_151 rfl
theorem g_27 {X:Cx} {pos:Pos} (T:Txt X.K X.mg a) (hg:Gl X "RAISED_DIGITS":=by rfl):PE X (.Name "RAISED_DIGITS" pos) (tC (.ref a.t_27)):=pe_glob hg T.m_27 rfl
theorem g_159 {X:Cx} {pos:Pos} (T:Txt X.K X.mg a) (hg:Gl X "SIGNS":=by rfl):PE X (.Name "SIGNS" pos) (tC (.ref a.t_159)):=pe_glob hg T.m_159 rfl
end
theorem txt_mk {K:W.Frag} {h:Heap} {mg:Str->Option Value} (X:K.In h) (G:h.Ns mainGlobals mg)
  {nm_76 qn_76:Str} {N_76:Addr} {bs_76:List Value} {sn_76:List Str} {sub_76:List Value} {ab_76:Bool} {col_76:Option Bool} {dd_76:Option Addr} {k0_76 k1_76 k2_76 k3_76 k5_76:Option Value} {ocn_76:Value} {odn_76:Option Addr} {es_76:Array DictEntry} {ep_76:Nat} {sln_76:Array (Option Value)}
  {nm_74 qn_74:Str} {N_74:Addr} {bs_74:List Value} {sn_74:List Str} {sub_74:List Value} {ab_74:Bool} {col_74:Option Bool} {dd_74:Option Addr} {k0_74 k1_74 k2_74 k3_74 k5_74:Option Value} {ocn_74:Value} {odn_74:Option Addr} {es_74:Array DictEntry} {ep_74:Nat} {sln_74:Array (Option Value)}
  {T_48:Addr} {n_48:Nat} {sl_48:Array (Option Value)}
  {T_49:Addr} {n_49:Nat} {sl_49:Array (Option Value)}
  {T_151:Addr} {n_151:Nat} {sl_151:Array (Option Value)}
  {T_27:Addr} {n_27:Nat} {sl_27:Array (Option Value)}
  {T_159:Addr} {n_159:Nat} {sl_159:Array (Option Value)}
  (z_76:W.nsIn K mainGlobals "TextFault"=some (some (.ref C_76)))
  (z_74:W.nsIn K mainGlobals "NotOfBook"=some (some (.ref C_74)))
  (z_157:W.nsIn K mainGlobals "Quire"=some (some (.ref C_157)))
  (z_150:W.nsIn K mainGlobals "Cursor"=some (some (.ref C_150)))
  (z_37:W.nsIn K mainGlobals "is_gathering"=some (some (.ref F_37)))
  (z_62:W.nsIn K mainGlobals "is_counted"=some (some (.ref F_62)))
  (z_136:W.nsIn K mainGlobals "has_leaf"=some (some (.ref F_136)))
  (z_51:W.nsIn K mainGlobals "number_text"=some (some (.ref F_51)))
  (z_78:W.nsIn K mainGlobals "is_letter"=some (some (.ref F_78)))
  (z_3:W.nsIn K mainGlobals "signature_behind"=some (some (.ref F_3)))
  (z_21:W.nsIn K mainGlobals "signature_text"=some (some (.ref F_21)))
  (z_60:W.findIn K (.ref C_157) "__init__"=some (some (.ref F_60)))
  (z_149:W.nsIn K mainGlobals "is_size"=some (some (.ref F_149)))
  (z_1:W.nsIn K mainGlobals "sizes_by_signature"=some (some (.ref F_1)))
  (z_137:W.nsIn K mainGlobals "is_plain"=some (some (.ref F_137)))
  (z_162:W.nsIn K mainGlobals "joins"=some (some (.ref F_162)))
  (z_33:W.nsIn K mainGlobals "partner_state"=some (some (.ref F_33)))
  (z_68:W.nsIn K mainGlobals "may_become"=some (some (.ref F_68)))
  (z_67:W.nsIn K mainGlobals "may_be_cut"=some (some (.ref F_67)))
  (z_65:W.nsIn K mainGlobals "leaf_signs"=some (some (.ref F_65)))
  (z_169:W.nsIn K mainGlobals "word"=some (some (.ref F_169)))
  (z_31:W.nsIn K mainGlobals "has_good_word"=some (some (.ref F_31)))
  (z_52:W.nsIn K mainGlobals "put_in_text"=some (some (.ref F_52)))
  (z_17:W.nsIn K mainGlobals "places_to_move"=some (some (.ref F_17)))
  (z_20:W.nsIn K mainGlobals "rising_lengths"=some (some (.ref F_20)))
  (z_135:W.nsIn K mainGlobals "can_keep"=some (some (.ref F_135)))
  (z_16:W.nsIn K mainGlobals "accident_lines"=some (some (.ref F_16)))
  (z_134:W.nsIn K mainGlobals "ask_book"=some (some (.ref F_134)))
  (z_63:W.nsIn K mainGlobals "lack_lines"=some (some (.ref F_63)))
  (z_36:W.nsIn K mainGlobals "change_lines"=some (some (.ref F_36)))
  (z_53:W.nsIn K mainGlobals "quire_lines"=some (some (.ref F_53)))
  (z_64:W.nsIn K mainGlobals "leaf_lines"=some (some (.ref F_64)))
  (z_77:W.nsIn K mainGlobals "gap_lines"=some (some (.ref F_77)))
  (z_32:W.nsIn K mainGlobals "numbered_text"=some (some (.ref F_32)))
  (z_69:W.nsIn K mainGlobals "move_lines"=some (some (.ref F_69)))
  (z_79:W.nsIn K mainGlobals "move_line"=some (some (.ref F_79)))
  (z_41:W.findIn K (.ref C_150) "__init__"=some (some (.ref F_41)))
  (z_42:W.findIn K (.ref C_150) "peek"=some (some (.ref F_42)))
  (z_43:W.findIn K (.ref C_150) "step"=some (some (.ref F_43)))
  (z_44:W.findIn K (.ref C_150) "take"=some (some (.ref F_44)))
  (z_54:W.nsIn K mainGlobals "read_number"=some (some (.ref F_54)))
  (z_19:W.nsIn K mainGlobals "read_signature"=some (some (.ref F_19)))
  (z_55:W.nsIn K mainGlobals "read_put_in"=some (some (.ref F_55)))
  (z_2:W.nsIn K mainGlobals "read_put_in_signs"=some (some (.ref F_2)))
  (z_39:W.nsIn K mainGlobals "read_formula"=some (some (.ref F_39)))
  (z_80:W.nsIn K mainGlobals "read_item"=some (some (.ref F_80)))
  (z_0:W.nsIn K mainGlobals "read_item_signatures"=some (some (.ref F_0)))
  (z_66:W.nsIn K mainGlobals "make_known"=some (some (.ref F_66)))
  (z_82:W.nsIn K mainGlobals "read_size"=some (some (.ref F_82)))
  (z_70:W.nsIn K mainGlobals "read_notes"=some (some (.ref F_70)))
  (z_81:W.nsIn K mainGlobals "read_note"=some (some (.ref F_81)))
  (z_18:W.nsIn K mainGlobals "read_leaf_note"=some (some (.ref F_18)))
  (z_34:W.nsIn K mainGlobals "read_gap_note"=some (some (.ref F_34)))
  (z_50:W.nsIn K mainGlobals "is_in_order"=some (some (.ref F_50)))
  (z_168:W.nsIn K mainGlobals "tell"=some (some (.ref F_168)))
  (z_161:W.nsIn K mainGlobals "count"=some (some (.ref F_161)))
  (z_38:W.nsIn K mainGlobals "lines_answer"=some (some (.ref F_38)))
  (z_56:W.nsIn K mainGlobals "text_answer"=some (some (.ref F_56)))
  (l_76:K.lookup C_76=some (excClassObj nm_76 qn_76 C_76 N_76 bs_76 mroE true sn_76 sub_76 ab_76 col_76 dd_76 k0_76 k1_76 k2_76 k3_76 k5_76 "Exception.__new__"))
  (ln_76:K.lookup N_76=some ⟨ocn_76,odn_76,.dict es_76 ep_76,sln_76⟩)
  (ls_76:es_76.toList.all (fun e=>match e.key with| .str _ _=>true|_=>false)=true)
  (z_15:W.nsIn K N_76 "__init__"=some (some (.ref F_15)))
  (y_TextFault_setattr:W.nsIn K N_76 "__setattr__"=some none)
  (y_TextFault_getattribute:W.nsIn K N_76 "__getattribute__"=some none)
  (y_TextFault_getattr:W.nsIn K N_76 "__getattr__"=some none)
  (y_TextFault_place:W.nsIn K N_76 "place"=some none)
  (kc_76:W.keepIn K (.ref C_76)=true)
  (l_74:K.lookup C_74=some (excClassObj nm_74 qn_74 C_74 N_74 bs_74 mroE true sn_74 sub_74 ab_74 col_74 dd_74 k0_74 k1_74 k2_74 k3_74 k5_74 "Exception.__new__"))
  (ln_74:K.lookup N_74=some ⟨ocn_74,odn_74,.dict es_74 ep_74,sln_74⟩)
  (ls_74:es_74.toList.all (fun e=>match e.key with| .str _ _=>true|_=>false)=true)
  (z_14:W.nsIn K N_74 "__init__"=some (some (.ref F_14)))
  (y_NotOfBook_setattr:W.nsIn K N_74 "__setattr__"=some none)
  (y_NotOfBook_getattribute:W.nsIn K N_74 "__getattribute__"=some none)
  (y_NotOfBook_getattr:W.nsIn K N_74 "__getattr__"=some none)
  (y_NotOfBook_signature:W.nsIn K N_74 "signature"=some none)
  (kc_74:W.keepIn K (.ref C_74)=true)
  (l_15:K.lookup F_15=some ⟨.type "function",od_15,.func (W.fnOf "__init__" "TextFault.__init__" (defArgs s_15) (defBody s_15) (defScope s_15) .none kV_15 dc_15 pm_15 an_15 cd_15 ct_15),sl_15⟩)
  (c_15:W.codeIn K cd_15 "TextFault.__init__"=true)
  (kp_15:W.keepIn K (.ref F_15)=true)
  (l_14:K.lookup F_14=some ⟨.type "function",od_14,.func (W.fnOf "__init__" "NotOfBook.__init__" (defArgs s_14) (defBody s_14) (defScope s_14) .none kV_14 dc_14 pm_14 an_14 cd_14 ct_14),sl_14⟩)
  (c_14:W.codeIn K cd_14 "NotOfBook.__init__"=true)
  (kp_14:W.keepIn K (.ref F_14)=true)
  (l_37:K.lookup F_37=some ⟨oc_37,od_37,.func (W.fnOf "is_gathering" "is_gathering" (defArgs s_37) (defBody s_37) (defScope s_37) .none kV_37 dc_37 pm_37 an_37 cd_37 ct_37),sl_37⟩)
  (c_37:W.codeIn K cd_37 "is_gathering"=true)
  (kp_37:W.keepIn K (.ref F_37)=true)
  (l_62:K.lookup F_62=some ⟨oc_62,od_62,.func (W.fnOf "is_counted" "is_counted" (defArgs s_62) (defBody s_62) (defScope s_62) .none kV_62 dc_62 pm_62 an_62 cd_62 ct_62),sl_62⟩)
  (c_62:W.codeIn K cd_62 "is_counted"=true)
  (kp_62:W.keepIn K (.ref F_62)=true)
  (l_136:K.lookup F_136=some ⟨oc_136,od_136,.func (W.fnOf "has_leaf" "has_leaf" (defArgs s_136) (defBody s_136) (defScope s_136) .none kV_136 dc_136 pm_136 an_136 cd_136 ct_136),sl_136⟩)
  (c_136:W.codeIn K cd_136 "has_leaf"=true)
  (kp_136:W.keepIn K (.ref F_136)=true)
  (l_51:K.lookup F_51=some ⟨oc_51,od_51,.func (W.fnOf "number_text" "number_text" (defArgs s_51) (defBody s_51) (defScope s_51) .none kV_51 dc_51 pm_51 an_51 cd_51 ct_51),sl_51⟩)
  (c_51:W.codeIn K cd_51 "number_text"=true)
  (kp_51:W.keepIn K (.ref F_51)=true)
  (l_78:K.lookup F_78=some ⟨oc_78,od_78,.func (W.fnOf "is_letter" "is_letter" (defArgs s_78) (defBody s_78) (defScope s_78) .none kV_78 dc_78 pm_78 an_78 cd_78 ct_78),sl_78⟩)
  (c_78:W.codeIn K cd_78 "is_letter"=true)
  (kp_78:W.keepIn K (.ref F_78)=true)
  (l_3:K.lookup F_3=some ⟨oc_3,od_3,.func (W.fnOf "signature_behind" "signature_behind" (defArgs s_3) (defBody s_3) (defScope s_3) .none kV_3 dc_3 pm_3 an_3 cd_3 ct_3),sl_3⟩)
  (c_3:W.codeIn K cd_3 "signature_behind"=true)
  (kp_3:W.keepIn K (.ref F_3)=true)
  (l_21:K.lookup F_21=some ⟨oc_21,od_21,.func (W.fnOf "signature_text" "signature_text" (defArgs s_21) (defBody s_21) (defScope s_21) .none kV_21 dc_21 pm_21 an_21 cd_21 ct_21),sl_21⟩)
  (c_21:W.codeIn K cd_21 "signature_text"=true)
  (kp_21:W.keepIn K (.ref F_21)=true)
  (l_60:K.lookup F_60=some ⟨oc_60,od_60,.func (W.fnOf "__init__" "Quire.__init__" (defArgs s_60) (defBody s_60) (defScope s_60) .none kV_60 dc_60 pm_60 an_60 cd_60 ct_60),sl_60⟩)
  (c_60:W.codeIn K cd_60 "Quire.__init__"=true)
  (kp_60:W.keepIn K (.ref F_60)=true)
  (i_60:W.isFn K (.ref F_60)=true)
  (l_149:K.lookup F_149=some ⟨oc_149,od_149,.func (W.fnOf "is_size" "is_size" (defArgs s_149) (defBody s_149) (defScope s_149) .none kV_149 dc_149 pm_149 an_149 cd_149 ct_149),sl_149⟩)
  (c_149:W.codeIn K cd_149 "is_size"=true)
  (kp_149:W.keepIn K (.ref F_149)=true)
  (l_1:K.lookup F_1=some ⟨oc_1,od_1,.func (W.fnOf "sizes_by_signature" "sizes_by_signature" (defArgs s_1) (defBody s_1) (defScope s_1) .none kV_1 dc_1 pm_1 an_1 cd_1 ct_1),sl_1⟩)
  (c_1:W.codeIn K cd_1 "sizes_by_signature"=true)
  (kp_1:W.keepIn K (.ref F_1)=true)
  (l_137:K.lookup F_137=some ⟨oc_137,od_137,.func (W.fnOf "is_plain" "is_plain" (defArgs s_137) (defBody s_137) (defScope s_137) .none kV_137 dc_137 pm_137 an_137 cd_137 ct_137),sl_137⟩)
  (c_137:W.codeIn K cd_137 "is_plain"=true)
  (kp_137:W.keepIn K (.ref F_137)=true)
  (l_162:K.lookup F_162=some ⟨oc_162,od_162,.func (W.fnOf "joins" "joins" (defArgs s_162) (defBody s_162) (defScope s_162) .none kV_162 dc_162 pm_162 an_162 cd_162 ct_162),sl_162⟩)
  (c_162:W.codeIn K cd_162 "joins"=true)
  (kp_162:W.keepIn K (.ref F_162)=true)
  (l_33:K.lookup F_33=some ⟨oc_33,od_33,.func (W.fnOf "partner_state" "partner_state" (defArgs s_33) (defBody s_33) (defScope s_33) .none kV_33 dc_33 pm_33 an_33 cd_33 ct_33),sl_33⟩)
  (c_33:W.codeIn K cd_33 "partner_state"=true)
  (kp_33:W.keepIn K (.ref F_33)=true)
  (l_68:K.lookup F_68=some ⟨oc_68,od_68,.func (W.fnOf "may_become" "may_become" (defArgs s_68) (defBody s_68) (defScope s_68) .none kV_68 dc_68 pm_68 an_68 cd_68 ct_68),sl_68⟩)
  (c_68:W.codeIn K cd_68 "may_become"=true)
  (kp_68:W.keepIn K (.ref F_68)=true)
  (l_67:K.lookup F_67=some ⟨oc_67,od_67,.func (W.fnOf "may_be_cut" "may_be_cut" (defArgs s_67) (defBody s_67) (defScope s_67) .none kV_67 dc_67 pm_67 an_67 cd_67 ct_67),sl_67⟩)
  (c_67:W.codeIn K cd_67 "may_be_cut"=true)
  (kp_67:W.keepIn K (.ref F_67)=true)
  (l_65:K.lookup F_65=some ⟨oc_65,od_65,.func (W.fnOf "leaf_signs" "leaf_signs" (defArgs s_65) (defBody s_65) (defScope s_65) .none kV_65 dc_65 pm_65 an_65 cd_65 ct_65),sl_65⟩)
  (c_65:W.codeIn K cd_65 "leaf_signs"=true)
  (kp_65:W.keepIn K (.ref F_65)=true)
  (l_169:K.lookup F_169=some ⟨oc_169,od_169,.func (W.fnOf "word" "word" (defArgs s_169) (defBody s_169) (defScope s_169) .none kV_169 dc_169 pm_169 an_169 cd_169 ct_169),sl_169⟩)
  (c_169:W.codeIn K cd_169 "word"=true)
  (kp_169:W.keepIn K (.ref F_169)=true)
  (l_31:K.lookup F_31=some ⟨oc_31,od_31,.func (W.fnOf "has_good_word" "has_good_word" (defArgs s_31) (defBody s_31) (defScope s_31) .none kV_31 dc_31 pm_31 an_31 cd_31 ct_31),sl_31⟩)
  (c_31:W.codeIn K cd_31 "has_good_word"=true)
  (kp_31:W.keepIn K (.ref F_31)=true)
  (l_52:K.lookup F_52=some ⟨oc_52,od_52,.func (W.fnOf "put_in_text" "put_in_text" (defArgs s_52) (defBody s_52) (defScope s_52) .none kV_52 dc_52 pm_52 an_52 cd_52 ct_52),sl_52⟩)
  (c_52:W.codeIn K cd_52 "put_in_text"=true)
  (kp_52:W.keepIn K (.ref F_52)=true)
  (l_17:K.lookup F_17=some ⟨oc_17,od_17,.func (W.fnOf "places_to_move" "places_to_move" (defArgs s_17) (defBody s_17) (defScope s_17) .none kV_17 dc_17 pm_17 an_17 cd_17 ct_17),sl_17⟩)
  (c_17:W.codeIn K cd_17 "places_to_move"=true)
  (kp_17:W.keepIn K (.ref F_17)=true)
  (l_20:K.lookup F_20=some ⟨oc_20,od_20,.func (W.fnOf "rising_lengths" "rising_lengths" (defArgs s_20) (defBody s_20) (defScope s_20) .none kV_20 dc_20 pm_20 an_20 cd_20 ct_20),sl_20⟩)
  (c_20:W.codeIn K cd_20 "rising_lengths"=true)
  (kp_20:W.keepIn K (.ref F_20)=true)
  (l_135:K.lookup F_135=some ⟨oc_135,od_135,.func (W.fnOf "can_keep" "can_keep" (defArgs s_135) (defBody s_135) (defScope s_135) .none kV_135 dc_135 pm_135 an_135 cd_135 ct_135),sl_135⟩)
  (c_135:W.codeIn K cd_135 "can_keep"=true)
  (kp_135:W.keepIn K (.ref F_135)=true)
  (l_16:K.lookup F_16=some ⟨oc_16,od_16,.func (W.fnOf "accident_lines" "accident_lines" (defArgs s_16) (defBody s_16) (defScope s_16) .none kV_16 dc_16 pm_16 an_16 cd_16 ct_16),sl_16⟩)
  (c_16:W.codeIn K cd_16 "accident_lines"=true)
  (kp_16:W.keepIn K (.ref F_16)=true)
  (l_134:K.lookup F_134=some ⟨oc_134,od_134,.func (W.fnOf "ask_book" "ask_book" (defArgs s_134) (defBody s_134) (defScope s_134) .none kV_134 dc_134 pm_134 an_134 cd_134 ct_134),sl_134⟩)
  (c_134:W.codeIn K cd_134 "ask_book"=true)
  (kp_134:W.keepIn K (.ref F_134)=true)
  (l_63:K.lookup F_63=some ⟨oc_63,od_63,.func (W.fnOf "lack_lines" "lack_lines" (defArgs s_63) (defBody s_63) (defScope s_63) .none kV_63 dc_63 pm_63 an_63 cd_63 ct_63),sl_63⟩)
  (c_63:W.codeIn K cd_63 "lack_lines"=true)
  (kp_63:W.keepIn K (.ref F_63)=true)
  (l_36:K.lookup F_36=some ⟨oc_36,od_36,.func (W.fnOf "change_lines" "change_lines" (defArgs s_36) (defBody s_36) (defScope s_36) .none kV_36 dc_36 pm_36 an_36 cd_36 ct_36),sl_36⟩)
  (c_36:W.codeIn K cd_36 "change_lines"=true)
  (kp_36:W.keepIn K (.ref F_36)=true)
  (l_53:K.lookup F_53=some ⟨oc_53,od_53,.func (W.fnOf "quire_lines" "quire_lines" (defArgs s_53) (defBody s_53) (defScope s_53) .none kV_53 dc_53 pm_53 an_53 cd_53 ct_53),sl_53⟩)
  (c_53:W.codeIn K cd_53 "quire_lines"=true)
  (kp_53:W.keepIn K (.ref F_53)=true)
  (l_64:K.lookup F_64=some ⟨oc_64,od_64,.func (W.fnOf "leaf_lines" "leaf_lines" (defArgs s_64) (defBody s_64) (defScope s_64) .none kV_64 dc_64 pm_64 an_64 cd_64 ct_64),sl_64⟩)
  (c_64:W.codeIn K cd_64 "leaf_lines"=true)
  (kp_64:W.keepIn K (.ref F_64)=true)
  (l_77:K.lookup F_77=some ⟨oc_77,od_77,.func (W.fnOf "gap_lines" "gap_lines" (defArgs s_77) (defBody s_77) (defScope s_77) .none kV_77 dc_77 pm_77 an_77 cd_77 ct_77),sl_77⟩)
  (c_77:W.codeIn K cd_77 "gap_lines"=true)
  (kp_77:W.keepIn K (.ref F_77)=true)
  (l_32:K.lookup F_32=some ⟨oc_32,od_32,.func (W.fnOf "numbered_text" "numbered_text" (defArgs s_32) (defBody s_32) (defScope s_32) .none kV_32 dc_32 pm_32 an_32 cd_32 ct_32),sl_32⟩)
  (c_32:W.codeIn K cd_32 "numbered_text"=true)
  (kp_32:W.keepIn K (.ref F_32)=true)
  (l_69:K.lookup F_69=some ⟨oc_69,od_69,.func (W.fnOf "move_lines" "move_lines" (defArgs s_69) (defBody s_69) (defScope s_69) .none kV_69 dc_69 pm_69 an_69 cd_69 ct_69),sl_69⟩)
  (c_69:W.codeIn K cd_69 "move_lines"=true)
  (kp_69:W.keepIn K (.ref F_69)=true)
  (l_79:K.lookup F_79=some ⟨oc_79,od_79,.func (W.fnOf "move_line" "move_line" (defArgs s_79) (defBody s_79) (defScope s_79) .none kV_79 dc_79 pm_79 an_79 cd_79 ct_79),sl_79⟩)
  (c_79:W.codeIn K cd_79 "move_line"=true)
  (kp_79:W.keepIn K (.ref F_79)=true)
  (l_41:K.lookup F_41=some ⟨oc_41,od_41,.func (W.fnOf "__init__" "Cursor.__init__" (defArgs s_41) (defBody s_41) (defScope s_41) .none kV_41 dc_41 pm_41 an_41 cd_41 ct_41),sl_41⟩)
  (c_41:W.codeIn K cd_41 "Cursor.__init__"=true)
  (kp_41:W.keepIn K (.ref F_41)=true)
  (i_41:W.isFn K (.ref F_41)=true)
  (l_42:K.lookup F_42=some ⟨oc_42,od_42,.func (W.fnOf "peek" "Cursor.peek" (defArgs s_42) (defBody s_42) (defScope s_42) .none kV_42 dc_42 pm_42 an_42 cd_42 ct_42),sl_42⟩)
  (c_42:W.codeIn K cd_42 "Cursor.peek"=true)
  (kp_42:W.keepIn K (.ref F_42)=true)
  (i_42:W.isFn K (.ref F_42)=true)
  (l_43:K.lookup F_43=some ⟨oc_43,od_43,.func (W.fnOf "step" "Cursor.step" (defArgs s_43) (defBody s_43) (defScope s_43) .none kV_43 dc_43 pm_43 an_43 cd_43 ct_43),sl_43⟩)
  (c_43:W.codeIn K cd_43 "Cursor.step"=true)
  (kp_43:W.keepIn K (.ref F_43)=true)
  (i_43:W.isFn K (.ref F_43)=true)
  (l_44:K.lookup F_44=some ⟨oc_44,od_44,.func (W.fnOf "take" "Cursor.take" (defArgs s_44) (defBody s_44) (defScope s_44) .none kV_44 dc_44 pm_44 an_44 cd_44 ct_44),sl_44⟩)
  (c_44:W.codeIn K cd_44 "Cursor.take"=true)
  (kp_44:W.keepIn K (.ref F_44)=true)
  (i_44:W.isFn K (.ref F_44)=true)
  (l_54:K.lookup F_54=some ⟨oc_54,od_54,.func (W.fnOf "read_number" "read_number" (defArgs s_54) (defBody s_54) (defScope s_54) .none kV_54 dc_54 pm_54 an_54 cd_54 ct_54),sl_54⟩)
  (c_54:W.codeIn K cd_54 "read_number"=true)
  (kp_54:W.keepIn K (.ref F_54)=true)
  (l_19:K.lookup F_19=some ⟨oc_19,od_19,.func (W.fnOf "read_signature" "read_signature" (defArgs s_19) (defBody s_19) (defScope s_19) .none kV_19 dc_19 pm_19 an_19 cd_19 ct_19),sl_19⟩)
  (c_19:W.codeIn K cd_19 "read_signature"=true)
  (kp_19:W.keepIn K (.ref F_19)=true)
  (l_55:K.lookup F_55=some ⟨oc_55,od_55,.func (W.fnOf "read_put_in" "read_put_in" (defArgs s_55) (defBody s_55) (defScope s_55) .none kV_55 dc_55 pm_55 an_55 cd_55 ct_55),sl_55⟩)
  (c_55:W.codeIn K cd_55 "read_put_in"=true)
  (kp_55:W.keepIn K (.ref F_55)=true)
  (l_2:K.lookup F_2=some ⟨oc_2,od_2,.func (W.fnOf "read_put_in_signs" "read_put_in_signs" (defArgs s_2) (defBody s_2) (defScope s_2) .none kV_2 dc_2 pm_2 an_2 cd_2 ct_2),sl_2⟩)
  (c_2:W.codeIn K cd_2 "read_put_in_signs"=true)
  (kp_2:W.keepIn K (.ref F_2)=true)
  (l_39:K.lookup F_39=some ⟨oc_39,od_39,.func (W.fnOf "read_formula" "read_formula" (defArgs s_39) (defBody s_39) (defScope s_39) .none kV_39 dc_39 pm_39 an_39 cd_39 ct_39),sl_39⟩)
  (c_39:W.codeIn K cd_39 "read_formula"=true)
  (kp_39:W.keepIn K (.ref F_39)=true)
  (l_80:K.lookup F_80=some ⟨oc_80,od_80,.func (W.fnOf "read_item" "read_item" (defArgs s_80) (defBody s_80) (defScope s_80) .none kV_80 dc_80 pm_80 an_80 cd_80 ct_80),sl_80⟩)
  (c_80:W.codeIn K cd_80 "read_item"=true)
  (kp_80:W.keepIn K (.ref F_80)=true)
  (l_0:K.lookup F_0=some ⟨oc_0,od_0,.func (W.fnOf "read_item_signatures" "read_item_signatures" (defArgs s_0) (defBody s_0) (defScope s_0) .none kV_0 dc_0 pm_0 an_0 cd_0 ct_0),sl_0⟩)
  (c_0:W.codeIn K cd_0 "read_item_signatures"=true)
  (kp_0:W.keepIn K (.ref F_0)=true)
  (l_66:K.lookup F_66=some ⟨oc_66,od_66,.func (W.fnOf "make_known" "make_known" (defArgs s_66) (defBody s_66) (defScope s_66) .none kV_66 dc_66 pm_66 an_66 cd_66 ct_66),sl_66⟩)
  (c_66:W.codeIn K cd_66 "make_known"=true)
  (kp_66:W.keepIn K (.ref F_66)=true)
  (l_82:K.lookup F_82=some ⟨oc_82,od_82,.func (W.fnOf "read_size" "read_size" (defArgs s_82) (defBody s_82) (defScope s_82) .none kV_82 dc_82 pm_82 an_82 cd_82 ct_82),sl_82⟩)
  (c_82:W.codeIn K cd_82 "read_size"=true)
  (kp_82:W.keepIn K (.ref F_82)=true)
  (l_70:K.lookup F_70=some ⟨oc_70,od_70,.func (W.fnOf "read_notes" "read_notes" (defArgs s_70) (defBody s_70) (defScope s_70) .none kV_70 dc_70 pm_70 an_70 cd_70 ct_70),sl_70⟩)
  (c_70:W.codeIn K cd_70 "read_notes"=true)
  (kp_70:W.keepIn K (.ref F_70)=true)
  (l_81:K.lookup F_81=some ⟨oc_81,od_81,.func (W.fnOf "read_note" "read_note" (defArgs s_81) (defBody s_81) (defScope s_81) .none kV_81 dc_81 pm_81 an_81 cd_81 ct_81),sl_81⟩)
  (c_81:W.codeIn K cd_81 "read_note"=true)
  (kp_81:W.keepIn K (.ref F_81)=true)
  (l_18:K.lookup F_18=some ⟨oc_18,od_18,.func (W.fnOf "read_leaf_note" "read_leaf_note" (defArgs s_18) (defBody s_18) (defScope s_18) .none kV_18 dc_18 pm_18 an_18 cd_18 ct_18),sl_18⟩)
  (c_18:W.codeIn K cd_18 "read_leaf_note"=true)
  (kp_18:W.keepIn K (.ref F_18)=true)
  (l_34:K.lookup F_34=some ⟨oc_34,od_34,.func (W.fnOf "read_gap_note" "read_gap_note" (defArgs s_34) (defBody s_34) (defScope s_34) .none kV_34 dc_34 pm_34 an_34 cd_34 ct_34),sl_34⟩)
  (c_34:W.codeIn K cd_34 "read_gap_note"=true)
  (kp_34:W.keepIn K (.ref F_34)=true)
  (l_50:K.lookup F_50=some ⟨oc_50,od_50,.func (W.fnOf "is_in_order" "is_in_order" (defArgs s_50) (defBody s_50) (defScope s_50) .none kV_50 dc_50 pm_50 an_50 cd_50 ct_50),sl_50⟩)
  (c_50:W.codeIn K cd_50 "is_in_order"=true)
  (kp_50:W.keepIn K (.ref F_50)=true)
  (l_168:K.lookup F_168=some ⟨oc_168,od_168,.func (W.fnOf "tell" "tell" (defArgs s_168) (defBody s_168) (defScope s_168) .none kV_168 dc_168 pm_168 an_168 cd_168 ct_168),sl_168⟩)
  (c_168:W.codeIn K cd_168 "tell"=true)
  (kp_168:W.keepIn K (.ref F_168)=true)
  (l_161:K.lookup F_161=some ⟨oc_161,od_161,.func (W.fnOf "count" "count" (defArgs s_161) (defBody s_161) (defScope s_161) .none kV_161 dc_161 pm_161 an_161 cd_161 ct_161),sl_161⟩)
  (c_161:W.codeIn K cd_161 "count"=true)
  (kp_161:W.keepIn K (.ref F_161)=true)
  (l_38:K.lookup F_38=some ⟨oc_38,od_38,.func (W.fnOf "lines_answer" "lines_answer" (defArgs s_38) (defBody s_38) (defScope s_38) .none kV_38 dc_38 pm_38 an_38 cd_38 ct_38),sl_38⟩)
  (c_38:W.codeIn K cd_38 "lines_answer"=true)
  (kp_38:W.keepIn K (.ref F_38)=true)
  (l_56:K.lookup F_56=some ⟨oc_56,od_56,.func (W.fnOf "text_answer" "text_answer" (defArgs s_56) (defBody s_56) (defScope s_56) .none kV_56 dc_56 pm_56 an_56 cd_56 ct_56),sl_56⟩)
  (c_56:W.codeIn K cd_56 "text_answer"=true)
  (kp_56:W.keepIn K (.ref F_56)=true)
  (pg_157:W.plainGet K C_157 Str.empty=true)
  (hd_157:W.hasDictIn K C_157=true)
  (po_157:W.plainOver K C_157=true)
  (sa_157:W.findIn K (.ref C_157) "__setattr__"=some (some (.builtin "object.__setattr__")))
  (mk_157:W.makesIn K C_157=true)
  (kc_157:W.keepIn K (.ref C_157)=true)
  (no_Quire_signature:W.findIn K (.ref C_157) "signature"=some none)
  (no_Quire_size:W.findIn K (.ref C_157) "size"=some none)
  (no_Quire_leaves:W.findIn K (.ref C_157) "leaves"=some none)
  (no_Quire_gaps:W.findIn K (.ref C_157) "gaps"=some none)
  (pg_150:W.plainGet K C_150 Str.empty=true)
  (hd_150:W.hasDictIn K C_150=true)
  (po_150:W.plainOver K C_150=true)
  (sa_150:W.findIn K (.ref C_150) "__setattr__"=some (some (.builtin "object.__setattr__")))
  (mk_150:W.makesIn K C_150=true)
  (kc_150:W.keepIn K (.ref C_150)=true)
  (no_Cursor_chars:W.findIn K (.ref C_150) "chars"=some none)
  (no_Cursor_place:W.findIn K (.ref C_150) "place"=some none)
  (no_Cursor_end:W.findIn K (.ref C_150) "end"=some none)
  (z_153:W.nsIn K mainGlobals "ALONE"=some (some (.int 124 tk_153)))
  (z_58:W.nsIn K mainGlobals "LEAF_FRONT"=some (some (.int 40 tk_58)))
  (z_71:W.nsIn K mainGlobals "LEAF_BACK"=some (some (.int 41 tk_71)))
  (z_61:W.nsIn K mainGlobals "STUB_FRONT"=some (some (.int 91 tk_61)))
  (z_75:W.nsIn K mainGlobals "STUB_BACK"=some (some (.int 93 tk_75)))
  (z_46:W.nsIn K mainGlobals "MOST_PLACES"=some (some (.int 21 tk_46)))
  (z_35:W.nsIn K mainGlobals "MOST_COUNTED"=some (some (.int 9 tk_35)))
  (z_72:W.nsIn K mainGlobals "LINE_FEED"=some (some (.int 10 tk_72)))
  (z_154:W.nsIn K mainGlobals "BLANK"=some (some (.int 32 tk_154)))
  (z_155:W.nsIn K mainGlobals "COMMA"=some (some (.int 44 tk_155)))
  (z_167:W.nsIn K mainGlobals "PLUS"=some (some (.int 43 tk_167)))
  (z_165:W.nsIn K mainGlobals "LEFT"=some (some (.int 40 tk_165)))
  (z_158:W.nsIn K mainGlobals "RIGHT"=some (some (.int 41 tk_158)))
  (z_163:W.nsIn K mainGlobals "DASH"=some (some (.int 8211 tk_163)))
  (z_156:W.nsIn K mainGlobals "MINUS"=some (some (.int 8722 tk_156)))
  (z_152:W.nsIn K mainGlobals "DIVIDE"=some (some (.int 247 tk_152)))
  (z_57:W.nsIn K mainGlobals "ANGLE_LEFT"=some (some (.int 10216 tk_57)))
  (z_40:W.nsIn K mainGlobals "ANGLE_RIGHT"=some (some (.int 10217 tk_40)))
  (z_160:W.nsIn K mainGlobals "TILDE"=some (some (.int 126 tk_160)))
  (z_138:W.nsIn K mainGlobals "GREATER"=some (some (.int 62 tk_138)))
  (z_171:W.nsIn K mainGlobals "DOT"=some (some (.int 46 tk_171)))
  (z_83:W.nsIn K mainGlobals "ALPHABET"=some (some (.int 23 tk_83)))
  (z_59:W.nsIn K mainGlobals "MOST_TIMES"=some (some (.int 99 tk_59)))
  (z_164:W.nsIn K mainGlobals "KEPT"=some (some (.int 0 tk_164)))
  (z_170:W.nsIn K mainGlobals "CUT"=some (some (.int 1 tk_170)))
  (z_166:W.nsIn K mainGlobals "LOST"=some (some (.int 2 tk_166)))
  (z_47:W.nsIn K mainGlobals "MOST_QUIRES"=some (some (.int 48 tk_47)))
  (z_73:W.nsIn K mainGlobals "MOST_SIZE"=some (some (.int 20 tk_73)))
  (z_45:W.nsIn K mainGlobals "MOST_DIGITS"=some (some (.int 7 tk_45)))
  (z_48:W.nsIn K mainGlobals "PLACE_SIGNS"=some (some (.ref T_48)))
  (l_48:K.lookup T_48=some ⟨.type "tuple",none,.seq #[.int 124 tk_22,.int 40 tk_23,.int 41 tk_24,.int 91 tk_25,.int 93 tk_26] n_48,sl_48⟩)
  (z_49:W.nsIn K mainGlobals "STATE_MARKS"=some (some (.ref T_49)))
  (l_49:K.lookup T_49=some ⟨.type "tuple",none,.seq #[.int 61 tk_28,.int 247 tk_29,.int 8722 tk_30] n_49,sl_49⟩)
  (z_151:W.nsIn K mainGlobals "DIGITS"=some (some (.ref T_151)))
  (l_151:K.lookup T_151=some ⟨.type "tuple",none,.seq #[.int 48 tk_84,.int 49 tk_85,.int 50 tk_86,.int 51 tk_87,.int 52 tk_88,.int 53 tk_89,.int 54 tk_90,.int 55 tk_91,.int 56 tk_92,.int 57 tk_93] n_151,sl_151⟩)
  (z_27:W.nsIn K mainGlobals "RAISED_DIGITS"=some (some (.ref T_27)))
  (l_27:K.lookup T_27=some ⟨.type "tuple",none,.seq #[.int 8304 tk_4,.int 185 tk_5,.int 178 tk_6,.int 179 tk_7,.int 8308 tk_8,.int 8309 tk_9,.int 8310 tk_10,.int 8311 tk_11,.int 8312 tk_12,.int 8313 tk_13] n_27,sl_27⟩)
  (z_159:W.nsIn K mainGlobals "SIGNS"=some (some (.ref T_159)))
  (l_159:K.lookup T_159=some ⟨.type "tuple",none,.seq #[.int 65 tk_139,.int 66 tk_140,.int 67 tk_141,.int 68 tk_142,.int 69 tk_143,.int 70 tk_144,.int 71 tk_145,.int 72 tk_146,.int 73 tk_147,.int 75 tk_148,.int 76 tk_94,.int 77 tk_95,.int 78 tk_96,.int 79 tk_97,.int 80 tk_98,.int 81 tk_99,.int 82 tk_100,.int 83 tk_101,.int 84 tk_102,.int 86 tk_103,.int 88 tk_104,.int 89 tk_105,.int 90 tk_106,.int 97 tk_107,.int 98 tk_108,.int 99 tk_109,.int 100 tk_110,.int 101 tk_111,.int 102 tk_112,.int 103 tk_113,.int 104 tk_114,.int 105 tk_115,.int 107 tk_116,.int 108 tk_117,.int 109 tk_118,.int 110 tk_119,.int 111 tk_120,.int 112 tk_121,.int 113 tk_122,.int 114 tk_123,.int 115 tk_124,.int 116 tk_125,.int 118 tk_126,.int 120 tk_127,.int 121 tk_128,.int 122 tk_129,.int 960 tk_130,.int 967 tk_131,.int 42 tk_132,.int 8224 tk_133] n_159,sl_159⟩)
  (z_len:W.nsIn K mainGlobals "len"=some none)
  (z_range:W.nsIn K mainGlobals "range"=some none)
  (z_all:W.nsIn K mainGlobals "all"=some none)
  (z_any:W.nsIn K mainGlobals "any"=some none)
  (z_list:W.nsIn K mainGlobals "list"=some none)
  (z_dict:W.nsIn K mainGlobals "dict"=some none)
  (z_str:W.nsIn K mainGlobals "str"=some none)
  (z_int:W.nsIn K mainGlobals "int"=some none)
  (z_enumerate:W.nsIn K mainGlobals "enumerate"=some none)
  (z_max:W.nsIn K mainGlobals "max"=some none)
  (z_min:W.nsIn K mainGlobals "min"=some none)
  (ne_TextFault_74:(C_76==C_74)=false):
  Txt K mg ⟨C_76,C_74,C_157,C_150,F_15,(W.fnOf "__init__" "TextFault.__init__" (defArgs s_15) (defBody s_15) (defScope s_15) .none kV_15 dc_15 pm_15 an_15 cd_15 ct_15),F_14,(W.fnOf "__init__" "NotOfBook.__init__" (defArgs s_14) (defBody s_14) (defScope s_14) .none kV_14 dc_14 pm_14 an_14 cd_14 ct_14),F_37,(W.fnOf "is_gathering" "is_gathering" (defArgs s_37) (defBody s_37) (defScope s_37) .none kV_37 dc_37 pm_37 an_37 cd_37 ct_37),F_62,(W.fnOf "is_counted" "is_counted" (defArgs s_62) (defBody s_62) (defScope s_62) .none kV_62 dc_62 pm_62 an_62 cd_62 ct_62),F_136,(W.fnOf "has_leaf" "has_leaf" (defArgs s_136) (defBody s_136) (defScope s_136) .none kV_136 dc_136 pm_136 an_136 cd_136 ct_136),F_51,(W.fnOf "number_text" "number_text" (defArgs s_51) (defBody s_51) (defScope s_51) .none kV_51 dc_51 pm_51 an_51 cd_51 ct_51),F_78,(W.fnOf "is_letter" "is_letter" (defArgs s_78) (defBody s_78) (defScope s_78) .none kV_78 dc_78 pm_78 an_78 cd_78 ct_78),F_3,(W.fnOf "signature_behind" "signature_behind" (defArgs s_3) (defBody s_3) (defScope s_3) .none kV_3 dc_3 pm_3 an_3 cd_3 ct_3),F_21,(W.fnOf "signature_text" "signature_text" (defArgs s_21) (defBody s_21) (defScope s_21) .none kV_21 dc_21 pm_21 an_21 cd_21 ct_21),F_60,(W.fnOf "__init__" "Quire.__init__" (defArgs s_60) (defBody s_60) (defScope s_60) .none kV_60 dc_60 pm_60 an_60 cd_60 ct_60),F_149,(W.fnOf "is_size" "is_size" (defArgs s_149) (defBody s_149) (defScope s_149) .none kV_149 dc_149 pm_149 an_149 cd_149 ct_149),F_1,(W.fnOf "sizes_by_signature" "sizes_by_signature" (defArgs s_1) (defBody s_1) (defScope s_1) .none kV_1 dc_1 pm_1 an_1 cd_1 ct_1),F_137,(W.fnOf "is_plain" "is_plain" (defArgs s_137) (defBody s_137) (defScope s_137) .none kV_137 dc_137 pm_137 an_137 cd_137 ct_137),F_162,(W.fnOf "joins" "joins" (defArgs s_162) (defBody s_162) (defScope s_162) .none kV_162 dc_162 pm_162 an_162 cd_162 ct_162),F_33,(W.fnOf "partner_state" "partner_state" (defArgs s_33) (defBody s_33) (defScope s_33) .none kV_33 dc_33 pm_33 an_33 cd_33 ct_33),F_68,(W.fnOf "may_become" "may_become" (defArgs s_68) (defBody s_68) (defScope s_68) .none kV_68 dc_68 pm_68 an_68 cd_68 ct_68),F_67,(W.fnOf "may_be_cut" "may_be_cut" (defArgs s_67) (defBody s_67) (defScope s_67) .none kV_67 dc_67 pm_67 an_67 cd_67 ct_67),F_65,(W.fnOf "leaf_signs" "leaf_signs" (defArgs s_65) (defBody s_65) (defScope s_65) .none kV_65 dc_65 pm_65 an_65 cd_65 ct_65),F_169,(W.fnOf "word" "word" (defArgs s_169) (defBody s_169) (defScope s_169) .none kV_169 dc_169 pm_169 an_169 cd_169 ct_169),F_31,(W.fnOf "has_good_word" "has_good_word" (defArgs s_31) (defBody s_31) (defScope s_31) .none kV_31 dc_31 pm_31 an_31 cd_31 ct_31),F_52,(W.fnOf "put_in_text" "put_in_text" (defArgs s_52) (defBody s_52) (defScope s_52) .none kV_52 dc_52 pm_52 an_52 cd_52 ct_52),F_17,(W.fnOf "places_to_move" "places_to_move" (defArgs s_17) (defBody s_17) (defScope s_17) .none kV_17 dc_17 pm_17 an_17 cd_17 ct_17),F_20,(W.fnOf "rising_lengths" "rising_lengths" (defArgs s_20) (defBody s_20) (defScope s_20) .none kV_20 dc_20 pm_20 an_20 cd_20 ct_20),F_135,(W.fnOf "can_keep" "can_keep" (defArgs s_135) (defBody s_135) (defScope s_135) .none kV_135 dc_135 pm_135 an_135 cd_135 ct_135),F_16,(W.fnOf "accident_lines" "accident_lines" (defArgs s_16) (defBody s_16) (defScope s_16) .none kV_16 dc_16 pm_16 an_16 cd_16 ct_16),F_134,(W.fnOf "ask_book" "ask_book" (defArgs s_134) (defBody s_134) (defScope s_134) .none kV_134 dc_134 pm_134 an_134 cd_134 ct_134),F_63,(W.fnOf "lack_lines" "lack_lines" (defArgs s_63) (defBody s_63) (defScope s_63) .none kV_63 dc_63 pm_63 an_63 cd_63 ct_63),F_36,(W.fnOf "change_lines" "change_lines" (defArgs s_36) (defBody s_36) (defScope s_36) .none kV_36 dc_36 pm_36 an_36 cd_36 ct_36),F_53,(W.fnOf "quire_lines" "quire_lines" (defArgs s_53) (defBody s_53) (defScope s_53) .none kV_53 dc_53 pm_53 an_53 cd_53 ct_53),F_64,(W.fnOf "leaf_lines" "leaf_lines" (defArgs s_64) (defBody s_64) (defScope s_64) .none kV_64 dc_64 pm_64 an_64 cd_64 ct_64),F_77,(W.fnOf "gap_lines" "gap_lines" (defArgs s_77) (defBody s_77) (defScope s_77) .none kV_77 dc_77 pm_77 an_77 cd_77 ct_77),F_32,(W.fnOf "numbered_text" "numbered_text" (defArgs s_32) (defBody s_32) (defScope s_32) .none kV_32 dc_32 pm_32 an_32 cd_32 ct_32),F_69,(W.fnOf "move_lines" "move_lines" (defArgs s_69) (defBody s_69) (defScope s_69) .none kV_69 dc_69 pm_69 an_69 cd_69 ct_69),F_79,(W.fnOf "move_line" "move_line" (defArgs s_79) (defBody s_79) (defScope s_79) .none kV_79 dc_79 pm_79 an_79 cd_79 ct_79),F_41,(W.fnOf "__init__" "Cursor.__init__" (defArgs s_41) (defBody s_41) (defScope s_41) .none kV_41 dc_41 pm_41 an_41 cd_41 ct_41),F_42,(W.fnOf "peek" "Cursor.peek" (defArgs s_42) (defBody s_42) (defScope s_42) .none kV_42 dc_42 pm_42 an_42 cd_42 ct_42),F_43,(W.fnOf "step" "Cursor.step" (defArgs s_43) (defBody s_43) (defScope s_43) .none kV_43 dc_43 pm_43 an_43 cd_43 ct_43),F_44,(W.fnOf "take" "Cursor.take" (defArgs s_44) (defBody s_44) (defScope s_44) .none kV_44 dc_44 pm_44 an_44 cd_44 ct_44),F_54,(W.fnOf "read_number" "read_number" (defArgs s_54) (defBody s_54) (defScope s_54) .none kV_54 dc_54 pm_54 an_54 cd_54 ct_54),F_19,(W.fnOf "read_signature" "read_signature" (defArgs s_19) (defBody s_19) (defScope s_19) .none kV_19 dc_19 pm_19 an_19 cd_19 ct_19),F_55,(W.fnOf "read_put_in" "read_put_in" (defArgs s_55) (defBody s_55) (defScope s_55) .none kV_55 dc_55 pm_55 an_55 cd_55 ct_55),F_2,(W.fnOf "read_put_in_signs" "read_put_in_signs" (defArgs s_2) (defBody s_2) (defScope s_2) .none kV_2 dc_2 pm_2 an_2 cd_2 ct_2),F_39,(W.fnOf "read_formula" "read_formula" (defArgs s_39) (defBody s_39) (defScope s_39) .none kV_39 dc_39 pm_39 an_39 cd_39 ct_39),F_80,(W.fnOf "read_item" "read_item" (defArgs s_80) (defBody s_80) (defScope s_80) .none kV_80 dc_80 pm_80 an_80 cd_80 ct_80),F_0,(W.fnOf "read_item_signatures" "read_item_signatures" (defArgs s_0) (defBody s_0) (defScope s_0) .none kV_0 dc_0 pm_0 an_0 cd_0 ct_0),F_66,(W.fnOf "make_known" "make_known" (defArgs s_66) (defBody s_66) (defScope s_66) .none kV_66 dc_66 pm_66 an_66 cd_66 ct_66),F_82,(W.fnOf "read_size" "read_size" (defArgs s_82) (defBody s_82) (defScope s_82) .none kV_82 dc_82 pm_82 an_82 cd_82 ct_82),F_70,(W.fnOf "read_notes" "read_notes" (defArgs s_70) (defBody s_70) (defScope s_70) .none kV_70 dc_70 pm_70 an_70 cd_70 ct_70),F_81,(W.fnOf "read_note" "read_note" (defArgs s_81) (defBody s_81) (defScope s_81) .none kV_81 dc_81 pm_81 an_81 cd_81 ct_81),F_18,(W.fnOf "read_leaf_note" "read_leaf_note" (defArgs s_18) (defBody s_18) (defScope s_18) .none kV_18 dc_18 pm_18 an_18 cd_18 ct_18),F_34,(W.fnOf "read_gap_note" "read_gap_note" (defArgs s_34) (defBody s_34) (defScope s_34) .none kV_34 dc_34 pm_34 an_34 cd_34 ct_34),F_50,(W.fnOf "is_in_order" "is_in_order" (defArgs s_50) (defBody s_50) (defScope s_50) .none kV_50 dc_50 pm_50 an_50 cd_50 ct_50),F_168,(W.fnOf "tell" "tell" (defArgs s_168) (defBody s_168) (defScope s_168) .none kV_168 dc_168 pm_168 an_168 cd_168 ct_168),F_161,(W.fnOf "count" "count" (defArgs s_161) (defBody s_161) (defScope s_161) .none kV_161 dc_161 pm_161 an_161 cd_161 ct_161),F_38,(W.fnOf "lines_answer" "lines_answer" (defArgs s_38) (defBody s_38) (defScope s_38) .none kV_38 dc_38 pm_38 an_38 cd_38 ct_38),F_56,(W.fnOf "text_answer" "text_answer" (defArgs s_56) (defBody s_56) (defScope s_56) .none kV_56 dc_56 pm_56 an_56 cd_56 ct_56),T_48,T_49,T_151,T_27,T_159⟩ where
 m_76:=W.mg_of X G z_76
 xc_76:=⟨⟨_,_,_,_,_,_,_,_,_,_,_,_,_,_,_,l_76,(fun h KX=>ns_of KX ln_76 ls_76),ns_at z_15 ln_76,ns_no y_TextFault_setattr ln_76,ns_no y_TextFault_getattribute ln_76,ns_no y_TextFault_getattr ln_76,ns_no y_TextFault_place ln_76⟩,kc_76,⟨_,l_15,rfl⟩,by rw [typeLookup_type,builtinLookup_eq_fast];kernel_rfl⟩
 m_74:=W.mg_of X G z_74
 xc_74:=⟨⟨_,_,_,_,_,_,_,_,_,_,_,_,_,_,_,l_74,(fun h KX=>ns_of KX ln_74 ls_74),ns_at z_14 ln_74,ns_no y_NotOfBook_setattr ln_74,ns_no y_NotOfBook_getattribute ln_74,ns_no y_NotOfBook_getattr ln_74,ns_no y_NotOfBook_signature ln_74⟩,kc_74,⟨_,l_14,rfl⟩,by rw [typeLookup_type,builtinLookup_eq_fast];kernel_rfl⟩
 m_157:=W.mg_of X G z_157
 cl_157:=⟨pg_157,hd_157,po_157,sa_157⟩
 mk_157:=⟨mk_157,z_60,i_60,kc_157⟩
 no_Quire_signature:=no_Quire_signature
 no_Quire_size:=no_Quire_size
 no_Quire_leaves:=no_Quire_leaves
 no_Quire_gaps:=no_Quire_gaps
 m_150:=W.mg_of X G z_150
 cl_150:=⟨pg_150,hd_150,po_150,sa_150⟩
 mk_150:=⟨mk_150,z_41,i_41,kc_150⟩
 no_Cursor_chars:=no_Cursor_chars
 no_Cursor_place:=no_Cursor_place
 no_Cursor_end:=no_Cursor_end
 u_15:=fun_mk (st:=s_15) l_15 c_15 kp_15
 u_14:=fun_mk (st:=s_14) l_14 c_14 kp_14
 u_37:=fun_mk (st:=s_37) l_37 c_37 kp_37
 m_37:=W.mg_of X G z_37
 u_62:=fun_mk (st:=s_62) l_62 c_62 kp_62
 m_62:=W.mg_of X G z_62
 u_136:=fun_mk (st:=s_136) l_136 c_136 kp_136
 m_136:=W.mg_of X G z_136
 u_51:=fun_mk (st:=s_51) l_51 c_51 kp_51
 m_51:=W.mg_of X G z_51
 u_78:=fun_mk (st:=s_78) l_78 c_78 kp_78
 m_78:=W.mg_of X G z_78
 u_3:=fun_mk (st:=s_3) l_3 c_3 kp_3
 m_3:=W.mg_of X G z_3
 u_21:=fun_mk (st:=s_21) l_21 c_21 kp_21
 m_21:=W.mg_of X G z_21
 u_60:=fun_mk (st:=s_60) l_60 c_60 kp_60
 u_149:=fun_mk (st:=s_149) l_149 c_149 kp_149
 m_149:=W.mg_of X G z_149
 u_1:=fun_mk (st:=s_1) l_1 c_1 kp_1
 m_1:=W.mg_of X G z_1
 u_137:=fun_mk (st:=s_137) l_137 c_137 kp_137
 m_137:=W.mg_of X G z_137
 u_162:=fun_mk (st:=s_162) l_162 c_162 kp_162
 m_162:=W.mg_of X G z_162
 u_33:=fun_mk (st:=s_33) l_33 c_33 kp_33
 m_33:=W.mg_of X G z_33
 u_68:=fun_mk (st:=s_68) l_68 c_68 kp_68
 m_68:=W.mg_of X G z_68
 u_67:=fun_mk (st:=s_67) l_67 c_67 kp_67
 m_67:=W.mg_of X G z_67
 u_65:=fun_mk (st:=s_65) l_65 c_65 kp_65
 m_65:=W.mg_of X G z_65
 u_169:=fun_mk (st:=s_169) l_169 c_169 kp_169
 m_169:=W.mg_of X G z_169
 u_31:=fun_mk (st:=s_31) l_31 c_31 kp_31
 m_31:=W.mg_of X G z_31
 u_52:=fun_mk (st:=s_52) l_52 c_52 kp_52
 m_52:=W.mg_of X G z_52
 u_17:=fun_mk (st:=s_17) l_17 c_17 kp_17
 m_17:=W.mg_of X G z_17
 u_20:=fun_mk (st:=s_20) l_20 c_20 kp_20
 m_20:=W.mg_of X G z_20
 u_135:=fun_mk (st:=s_135) l_135 c_135 kp_135
 m_135:=W.mg_of X G z_135
 u_16:=fun_mk (st:=s_16) l_16 c_16 kp_16
 m_16:=W.mg_of X G z_16
 u_134:=fun_mk (st:=s_134) l_134 c_134 kp_134
 m_134:=W.mg_of X G z_134
 u_63:=fun_mk (st:=s_63) l_63 c_63 kp_63
 m_63:=W.mg_of X G z_63
 u_36:=fun_mk (st:=s_36) l_36 c_36 kp_36
 m_36:=W.mg_of X G z_36
 u_53:=fun_mk (st:=s_53) l_53 c_53 kp_53
 m_53:=W.mg_of X G z_53
 u_64:=fun_mk (st:=s_64) l_64 c_64 kp_64
 m_64:=W.mg_of X G z_64
 u_77:=fun_mk (st:=s_77) l_77 c_77 kp_77
 m_77:=W.mg_of X G z_77
 u_32:=fun_mk (st:=s_32) l_32 c_32 kp_32
 m_32:=W.mg_of X G z_32
 u_69:=fun_mk (st:=s_69) l_69 c_69 kp_69
 m_69:=W.mg_of X G z_69
 u_79:=fun_mk (st:=s_79) l_79 c_79 kp_79
 m_79:=W.mg_of X G z_79
 u_41:=fun_mk (st:=s_41) l_41 c_41 kp_41
 u_42:=fun_mk (st:=s_42) l_42 c_42 kp_42
 me_42:=⟨z_42,i_42,kp_42⟩
 u_43:=fun_mk (st:=s_43) l_43 c_43 kp_43
 me_43:=⟨z_43,i_43,kp_43⟩
 u_44:=fun_mk (st:=s_44) l_44 c_44 kp_44
 me_44:=⟨z_44,i_44,kp_44⟩
 u_54:=fun_mk (st:=s_54) l_54 c_54 kp_54
 m_54:=W.mg_of X G z_54
 u_19:=fun_mk (st:=s_19) l_19 c_19 kp_19
 m_19:=W.mg_of X G z_19
 u_55:=fun_mk (st:=s_55) l_55 c_55 kp_55
 m_55:=W.mg_of X G z_55
 u_2:=fun_mk (st:=s_2) l_2 c_2 kp_2
 m_2:=W.mg_of X G z_2
 u_39:=fun_mk (st:=s_39) l_39 c_39 kp_39
 m_39:=W.mg_of X G z_39
 u_80:=fun_mk (st:=s_80) l_80 c_80 kp_80
 m_80:=W.mg_of X G z_80
 u_0:=fun_mk (st:=s_0) l_0 c_0 kp_0
 m_0:=W.mg_of X G z_0
 u_66:=fun_mk (st:=s_66) l_66 c_66 kp_66
 m_66:=W.mg_of X G z_66
 u_82:=fun_mk (st:=s_82) l_82 c_82 kp_82
 m_82:=W.mg_of X G z_82
 u_70:=fun_mk (st:=s_70) l_70 c_70 kp_70
 m_70:=W.mg_of X G z_70
 u_81:=fun_mk (st:=s_81) l_81 c_81 kp_81
 m_81:=W.mg_of X G z_81
 u_18:=fun_mk (st:=s_18) l_18 c_18 kp_18
 m_18:=W.mg_of X G z_18
 u_34:=fun_mk (st:=s_34) l_34 c_34 kp_34
 m_34:=W.mg_of X G z_34
 u_50:=fun_mk (st:=s_50) l_50 c_50 kp_50
 m_50:=W.mg_of X G z_50
 u_168:=fun_mk (st:=s_168) l_168 c_168 kp_168
 m_168:=W.mg_of X G z_168
 u_161:=fun_mk (st:=s_161) l_161 c_161 kp_161
 m_161:=W.mg_of X G z_161
 u_38:=fun_mk (st:=s_38) l_38 c_38 kp_38
 m_38:=W.mg_of X G z_38
 u_56:=fun_mk (st:=s_56) l_56 c_56 kp_56
 m_56:=W.mg_of X G z_56
 k_153:=⟨_,W.mg_of X G z_153⟩
 k_58:=⟨_,W.mg_of X G z_58⟩
 k_71:=⟨_,W.mg_of X G z_71⟩
 k_61:=⟨_,W.mg_of X G z_61⟩
 k_75:=⟨_,W.mg_of X G z_75⟩
 k_46:=⟨_,W.mg_of X G z_46⟩
 k_35:=⟨_,W.mg_of X G z_35⟩
 k_72:=⟨_,W.mg_of X G z_72⟩
 k_154:=⟨_,W.mg_of X G z_154⟩
 k_155:=⟨_,W.mg_of X G z_155⟩
 k_167:=⟨_,W.mg_of X G z_167⟩
 k_165:=⟨_,W.mg_of X G z_165⟩
 k_158:=⟨_,W.mg_of X G z_158⟩
 k_163:=⟨_,W.mg_of X G z_163⟩
 k_156:=⟨_,W.mg_of X G z_156⟩
 k_152:=⟨_,W.mg_of X G z_152⟩
 k_57:=⟨_,W.mg_of X G z_57⟩
 k_40:=⟨_,W.mg_of X G z_40⟩
 k_160:=⟨_,W.mg_of X G z_160⟩
 k_138:=⟨_,W.mg_of X G z_138⟩
 k_171:=⟨_,W.mg_of X G z_171⟩
 k_83:=⟨_,W.mg_of X G z_83⟩
 k_59:=⟨_,W.mg_of X G z_59⟩
 k_164:=⟨_,W.mg_of X G z_164⟩
 k_170:=⟨_,W.mg_of X G z_170⟩
 k_166:=⟨_,W.mg_of X G z_166⟩
 k_47:=⟨_,W.mg_of X G z_47⟩
 k_73:=⟨_,W.mg_of X G z_73⟩
 k_45:=⟨_,W.mg_of X G z_45⟩
 m_48:=W.mg_of X G z_48
 q_48:=fun H=> .inr ⟨_,_,_,l_48,rfl,rfl,(by show 5<=sizeLine;decide),.cons ⟨_,rfl⟩ (.cons ⟨_,rfl⟩ (.cons ⟨_,rfl⟩ (.cons ⟨_,rfl⟩ (.cons ⟨_,rfl⟩ (.nil)))))⟩
 m_49:=W.mg_of X G z_49
 q_49:=fun H=> .inr ⟨_,_,_,l_49,rfl,rfl,(by show 3<=sizeLine;decide),.cons ⟨_,rfl⟩ (.cons ⟨_,rfl⟩ (.cons ⟨_,rfl⟩ (.nil)))⟩
 m_151:=W.mg_of X G z_151
 q_151:=fun H=> .inr ⟨_,_,_,l_151,rfl,rfl,(by show 10<=sizeLine;decide),.cons ⟨_,rfl⟩ (.cons ⟨_,rfl⟩ (.cons ⟨_,rfl⟩ (.cons ⟨_,rfl⟩ (.cons ⟨_,rfl⟩ (.cons ⟨_,rfl⟩ (.cons ⟨_,rfl⟩ (.cons ⟨_,rfl⟩ (.cons ⟨_,rfl⟩ (.cons ⟨_,rfl⟩ (.nil))))))))))⟩
 m_27:=W.mg_of X G z_27
 q_27:=fun H=> .inr ⟨_,_,_,l_27,rfl,rfl,(by show 10<=sizeLine;decide),.cons ⟨_,rfl⟩ (.cons ⟨_,rfl⟩ (.cons ⟨_,rfl⟩ (.cons ⟨_,rfl⟩ (.cons ⟨_,rfl⟩ (.cons ⟨_,rfl⟩ (.cons ⟨_,rfl⟩ (.cons ⟨_,rfl⟩ (.cons ⟨_,rfl⟩ (.cons ⟨_,rfl⟩ (.nil))))))))))⟩
 m_159:=W.mg_of X G z_159
 q_159:=fun H=> .inr ⟨_,_,_,l_159,rfl,rfl,(by show 50<=sizeLine;decide),.cons ⟨_,rfl⟩ (.cons ⟨_,rfl⟩ (.cons ⟨_,rfl⟩ (.cons ⟨_,rfl⟩ (.cons ⟨_,rfl⟩ (.cons ⟨_,rfl⟩ (.cons ⟨_,rfl⟩ (.cons ⟨_,rfl⟩ (.cons ⟨_,rfl⟩ (.cons ⟨_,rfl⟩ (.cons ⟨_,rfl⟩ (.cons ⟨_,rfl⟩ (.cons ⟨_,rfl⟩ (.cons ⟨_,rfl⟩ (.cons ⟨_,rfl⟩ (.cons ⟨_,rfl⟩ (.cons ⟨_,rfl⟩ (.cons ⟨_,rfl⟩ (.cons ⟨_,rfl⟩ (.cons ⟨_,rfl⟩ (.cons ⟨_,rfl⟩ (.cons ⟨_,rfl⟩ (.cons ⟨_,rfl⟩ (.cons ⟨_,rfl⟩ (.cons ⟨_,rfl⟩ (.cons ⟨_,rfl⟩ (.cons ⟨_,rfl⟩ (.cons ⟨_,rfl⟩ (.cons ⟨_,rfl⟩ (.cons ⟨_,rfl⟩ (.cons ⟨_,rfl⟩ (.cons ⟨_,rfl⟩ (.cons ⟨_,rfl⟩ (.cons ⟨_,rfl⟩ (.cons ⟨_,rfl⟩ (.cons ⟨_,rfl⟩ (.cons ⟨_,rfl⟩ (.cons ⟨_,rfl⟩ (.cons ⟨_,rfl⟩ (.cons ⟨_,rfl⟩ (.cons ⟨_,rfl⟩ (.cons ⟨_,rfl⟩ (.cons ⟨_,rfl⟩ (.cons ⟨_,rfl⟩ (.cons ⟨_,rfl⟩ (.cons ⟨_,rfl⟩ (.cons ⟨_,rfl⟩ (.cons ⟨_,rfl⟩ (.cons ⟨_,rfl⟩ (.cons ⟨_,rfl⟩ (.nil))))))))))))))))))))))))))))))))))))))))))))))))))⟩
 w_48:=⟨_,l_48,rfl,rfl⟩
 w_49:=⟨_,l_49,rfl,rfl⟩
 w_151:=⟨_,l_151,rfl,rfl⟩
 w_27:=⟨_,l_27,rfl,rfl⟩
 w_159:=⟨_,l_159,rfl,rfl⟩
 b_len:=W.mg_none_of X G z_len
 b_range:=W.mg_none_of X G z_range
 b_all:=W.mg_none_of X G z_all
 b_any:=W.mg_none_of X G z_any
 b_list:=W.mg_none_of X G z_list
 b_dict:=W.mg_none_of X G z_dict
 b_str:=W.mg_none_of X G z_str
 b_int:=W.mg_none_of X G z_int
 b_enumerate:=W.mg_none_of X G z_enumerate
 b_max:=W.mg_none_of X G z_max
 b_min:=W.mg_none_of X G z_min
 ne_TextFault_74:=ne_of_beq_false ne_TextFault_74
end Q
namespace XL
open PySem PySem.Spec PyProof.Rows L2
open PySem.W (WData Codec OpenSpec)
theorem walk_own {r : OpenSpec} {k : Nat} {q : Program} {loose : List Str} {XP : (Str -> Option Value) -> Heap -> Prop} {YP : World -> Heap -> Prop} {d : DefRec} {K : Params -> W.Frag} {ps : List Str} {sp : W.Frag -> Sp}
  (hwell : r.wellSaid = true) (hdf : d.params.defaults = []) (hlen : r.args.length = ps.length) (hr : Room k callerA)
  (hY : ∀ (w : World) (h : Heap), YP w h -> (K w.params).In h)
  (F : ∀ (w : World) (mg : Str -> Option Value) (fa : Addr) (h : Heap), YP w h -> (K w.params).In h -> h.Ns mainGlobals mg -> mg d.name = some (.ref fa) ->
   ∃ fd : FuncData, (∀ (s : Shared) (us : List Value), us.length = ps.length -> BindsTo s fd ⟨us, []⟩ (ps.zip us)) /\
    ∀ base : Heap, (K w.params).In base -> base.Ns mainGlobals mg -> FnOk r.prog w (K w.params) mg base (CXd r.prog w) k fa fd ps (sp (K w.params)))
  (hsp : ∀ (K : W.Frag) (H : Hp) (xs : List V) (a : Codec.denoteAll r.args), OnlyF H -> Codec.withinAll r.args a = true -> Codec.app r.args r.asked a = true -> DwAll K H xs (Codec.encAll r.args a) ->
   sp K xs H (fun v H' => Dw K H' v (r.ret.enc (Codec.app r.args r.f a))) fun _ _ _ => False) :
  W.WalkOS q loose XP YP r d [] (fun f vs => PySem.call f vs) :=
 walk_spec (K := K) (CX := fun w => CXd r.prog w) (sp := fun w => sp (K w.params)) hwell hdf hlen hr hY F (fun w H xs a h1 h2 h3 h4 => hsp (K w.params) H xs a h1 h2 h3 h4) (fun w H s e s' h => by
  obtain ⟨_, _, _, _, _, _, _, _, _, _, _, hE⟩ := h
  exact hE)
end XL
namespace R
open PySem PySem.Spec PyProof.Rows L2 XL
section
variable {σ:L2.St} {H H1:Hp} {Q:VK} {D:Ends} {K:W.Frag}
theorem var {i:Nat} {v:V} (h:σ[i]? =some (some v)) (q:Q v H):tVar i σ H Q:=⟨v,h,q⟩
theorem con {v:V} (q:Q v H):tC v σ H Q:=q
def kFld (K:W.Frag) (f:Str) (Q:VK) (x:V) (H1:Hp):Prop:=∃a C dx fs v,x= .ref a/\H1 a=some (.ins C dx fs)/\Cls K C/\NoAttr K C f/\fs.lookup f=some v/\Q v H1
theorem fld {ta:TE} {f:Str} (h:ta σ H (fun x H1=>kFld K f Q x H1)):tFld K ta f σ H Q:=h
theorem kfld {a C dx:Addr} {fs:List (Str×V)} {f:Str} {v:V} (h:H a=some (.ins C dx fs)) (c:Cls K C) (n:NoAttr K C f) (l:fs.lookup f=some v) (q:Q v H):kFld K f Q (.ref a) H:=⟨a,C,dx,fs,v,rfl,h,c,n,l,q⟩
theorem op {r:R2} {ta tb:TE} (h:ta σ H fun x H1=>tb σ H1 fun y H2=>r x y H2 Q):tOp r ta tb σ H Q:=h
theorem un {r:V->Hp->VK->Prop} {ta:TE} (h:ta σ H fun x H1=>r x H1 Q):tUn r ta σ H Q:=h
theorem rU {g:Int->V} {i:Int} (q:Q (g i) H):L2.rU g (.int i) H Q:=⟨i,rfl,q⟩
theorem i0 {g:Int->Int->V} {i j:Int} (q:Q (g i j) H):rI0 g (.int i) (.int j) H Q:=⟨i,j,rfl,rfl,q⟩
theorem iC {C:Int->Int->Prop} {g:Int->Int->V} {i j:Int} (c:C i j) (q:Q (g i j) H):rI C g (.int i) (.int j) H Q:=⟨i,j,rfl,rfl,c,q⟩
theorem eq_ {x y:V} (s:scal x y=true) (q:Q (.bl (decide (x=y))) H):rEq x y H Q:=⟨s,q⟩
theorem ne_ {x y:V} (s:scal x y=true) (q:Q (.bl (!decide (x=y))) H):rNe x y H Q:=⟨s,q⟩
theorem test {t:TE} {Qb:Bool->Hp->Prop} (h:t σ H fun x H'=>∃k,x= .bl k/\Qb k H'):tTest t σ H Qb:=h
theorem bl {b:Bool} {Qb:Bool->Prop} (q:Qb b):∃k,V.bl b= .bl k/\Qb k:=⟨b,rfl,q⟩
theorem dif {c A B:Prop} [Decidable c] (h1:c->A) (h2:¬c->B):if decide c=true then A else B:=by
 by_cases h:c
 ·rw [if_pos (decide_eq_true h)];exact h1 h
 ·rw [if_neg (by rw [decide_eq_false h];decide)];exact h2 h
theorem nif {c A B:Prop} [Decidable c] (h1:¬c->A) (h2:c->B):if (!decide c)=true then A else B:=by
 by_cases h:c
 ·rw [if_neg (by rw [decide_eq_true h];decide)];exact h2 h
 ·rw [if_pos (by rw [decide_eq_false h];decide)];exact h1 h
theorem bbif {b:Bool} {A B:Prop} (h1:b=true->A) (h2:b=false->B):if b=true then A else B:=by
 cases b
 ·rw [if_neg Bool.false_ne_true];exact h2 rfl
 ·rw [if_pos rfl];exact h1 rfl
theorem bbnif {b:Bool} {A B:Prop} (h1:b=false->A) (h2:b=true->B):if (!b)=true then A else B:=by
 cases b
 ·exact h1 rfl
 ·exact h2 rfl
theorem ixl {K:W.Frag} {p:Addr} {xs:List V} {i:Int} {v:V} (h:SqL K H p xs) (e:atI xs i=some v) (q:Q v H):rIxL K (.ref p) (.int i) H Q:=⟨p,xs,i,v,rfl,rfl,h,e,q⟩
theorem ixt {K:W.Frag} {p:Addr} {xs:List V} {i:Int} {v:V} (h:SqT K H p xs) (e:atI xs i=some v) (q:Q v H):rIxT K (.ref p) (.int i) H Q:=⟨p,xs,i,v,rfl,rfl,h,e,q⟩
theorem ret {te:TE} (h:te σ H D.rt):tRet te D σ H:=h
theorem seq {t u:TS} (h:t {D with nx:=u D} σ H):tSeq t u D σ H:=h
theorem cut {t u:TS} (M:L2.St->Hp->Prop) (fin:∀σ' H',M σ' H'->u D σ' H') (h:∀N:L2.St->Hp->Prop,(∀σ' H',M σ' H'->N σ' H')->t {D with nx:=N} σ H):tSeq t u D σ H:=h (u D) fin
theorem next (h:D.nx σ H):tNext D σ H:=h
theorem drop {te:TE} (h:te σ H fun _ H1=>D.nx σ H1):tDrop te D σ H:=h
theorem asg {te:TE} {g:TG} (h:te σ H fun x H1=>g x σ H1 D.nx):tAsg te g D σ H:=h
theorem name {i:Nat} {v:V} {N:L2.St->Hp->Prop} (h:N (σ.set i (some v)) H):gName i v σ H N:=h
theorem ifs {c:TT} {t u:TS} (h:c σ H fun b H1=>if b=true then t D σ H1 else u D σ H1):tIfS c t u D σ H:=h
theorem tand {t u:TT} {Qb:Bool->Hp->Prop} (h:t σ H fun c H1=>if c=true then u σ H1 Qb else Qb false H1):tAnd t u σ H Qb:=h
theorem tor {t u:TT} {Qb:Bool->Hp->Prop} (h:t σ H fun c H1=>if c=true then Qb true H1 else u σ H1 Qb):tOr t u σ H Qb:=h
theorem tnot {t:TT} {Qb:Bool->Hp->Prop} (h:t σ H fun c H1=>Qb (!c) H1):tNot t σ H Qb:=h
def Ev (t:TT) (σ:L2.St) (H:Hp) (b:Bool):Prop:=∀Qb:Bool->Hp->Prop,Qb b H->t σ H Qb
theorem Evor {t u:TT} {b1 b2:Bool} (h1:Ev t σ H b1) (h2:Ev u σ H b2):Ev (tOr t u) σ H (b1||b2):=fun Qb q=>h1 _ (by cases b1<;>first|exact h2 Qb q|exact q)
theorem Evand {t u:TT} {b1 b2:Bool} (h1:Ev t σ H b1) (h2:Ev u σ H b2):Ev (tAnd t u) σ H (b1&&b2):=fun Qb q=>h1 _ (by cases b1<;>first|exact h2 Qb q|exact q)
theorem Evnot {t:TT} {b:Bool} (h:Ev t σ H b):Ev (tNot t) σ H (!b):=fun Qb q=>h _ q
theorem evor {t u:TT} {b1 b2:Bool} {Qb:Bool->Hp->Prop} (h1:Ev t σ H b1) (h2:Ev u σ H b2) (q:Qb (b1||b2) H):tOr t u σ H Qb:=Evor h1 h2 Qb q
theorem evand {t u:TT} {b1 b2:Bool} {Qb:Bool->Hp->Prop} (h1:Ev t σ H b1) (h2:Ev u σ H b2) (q:Qb (b1&&b2) H):tAnd t u σ H Qb:=Evand h1 h2 Qb q
def EvE (t:TE) (σ:L2.St) (H:Hp) (v:V):Prop:=∀Q:VK,Q v H->t σ H Q
theorem Eand {t u:TE} {b1 b2:Bool} (h1:EvE t σ H (.bl b1)) (h2:b1=true->EvE u σ H (.bl b2)):EvE (tAndV t u) σ H (.bl (b1&&b2)):=fun Q q=>h1 _ ⟨b1,rfl,by cases b1<;>first|exact h2 rfl Q q|exact q⟩
theorem Eor {t u:TE} {b1 b2:Bool} (h1:EvE t σ H (.bl b1)) (h2:b1=false->EvE u σ H (.bl b2)):EvE (tOrV t u) σ H (.bl (b1||b2)):=fun Q q=>h1 _ ⟨b1,rfl,by cases b1<;>first|exact h2 rfl Q q|exact q⟩
theorem eand {t u:TE} {b1 b2:Bool} (h1:EvE t σ H (.bl b1)) (h2:b1=true->EvE u σ H (.bl b2)) (q:Q (.bl (b1&&b2)) H):tAndV t u σ H Q:=Eand h1 h2 Q q
theorem eor {t u:TE} {b1 b2:Bool} (h1:EvE t σ H (.bl b1)) (h2:b1=false->EvE u σ H (.bl b2)) (q:Q (.bl (b1||b2)) H):tOrV t u σ H Q:=Eor h1 h2 Q q
theorem tb {t:TE} {Qb:Bool->Hp->Prop} (h:t σ H fun x H1=>∃c,x= .bl c/\Qb c H1):tB t σ H Qb:=h
theorem andV {ta tb:TE} (h:ta σ H fun x H1=>∃c,x= .bl c/\if c=true then tb σ H1 Q else Q (.bl false) H1):tAndV ta tb σ H Q:=h
theorem ifE {t:TT} {ta tb:TE} (h:t σ H fun c H1=>if c=true then ta σ H1 Q else tb σ H1 Q):tIf t ta tb σ H Q:=h
theorem nil {Ql:List V->Hp->Prop} (q:Ql [] H):tNil σ H Ql:=q
theorem cons {ta:TE} {tr:TA} {Ql:List V->Hp->Prop} (h:ta σ H fun x H1=>tr σ H1 fun xs H2=>Ql (x::xs) H2):tCons ta tr σ H Ql:=h
theorem call {sp:Sp} {dvs:List V} {E:XK} {t:TA} (h:t σ H fun vs H1=>sp (vs++dvs) H1 Q E):tCall sp dvs E t σ H Q:=h
theorem cb {r:List V->Hp->VK->Prop} {t:TA} (h:t σ H fun vs H1=>r vs H1 Q):tCB r t σ H Q:=h
theorem bm {T:String} {r:V->List V->Hp->VK->Prop} {to:TE} {t:TA} (h:to σ H fun x H1=>tyV K T x H1/\t σ H1 fun xs H2=>r x xs H2 Q):tBM K T r to t σ H Q:=h
theorem bm0 {T:String} {r:V->List V->Hp->VK->Prop} {to:TE} (h:to σ H fun x H1=>tyV K T x H1/\r x [] H1 Q):tBM0 K T r to σ H Q:=h
def New (H:Hp) (p:Addr) (o:HO) (H':Hp):Prop:=H p=none/\H' p=some o/\Same H H'
theorem new_of {p:Addr} {o:HO} (h:H p=none):New H p o (upd H p o):=⟨h,upd_same,fun b u e=>by rw [upd_ne (ne_of_none e h)];exact e⟩
theorem truB {b:Bool} {Qb:Bool->Prop} (q:Qb b):∃k,TruV K (.bl b) H k/\Qb k:=⟨b,rfl,q⟩
theorem truN {Qb:Bool->Prop} (q:Qb false):∃k,TruV K .non H k/\Qb k:=⟨false,rfl,q⟩
theorem truL {p:Addr} {xs:List V} {Qb:Bool->Prop} (h:SqL K H p xs) (q:Qb (!xs.isEmpty)):∃k,TruV K (.ref p) H k/\Qb k:=⟨_,.inl ⟨xs,h,rfl⟩,q⟩
theorem notT {ta:TE} (h:ta σ H fun x H'=>∃k,TruV K x H' k/\Q (.bl (!k)) H'):tNotT K ta σ H Q:=h
theorem chain {r r':R2} {ta tb tc:TE} (h:ta σ H fun x H1=>tb σ H1 fun y H2=>r x y H2 fun z H3=>∃k,z= .bl k/\(if k=true then tc σ H3 fun w' H4=>r' y w' H4 Q else Q (.bl false) H3)):tChain r r' ta tb tc σ H Q:=h
theorem Echain {ta tb tc:TE} {i j k:Int} (h1:EvE ta σ H (.int i)) (h2:EvE tb σ H (.int j)) (h3:EvE tc σ H (.int k)):
  EvE (tChain (rI0 fun i j=> .bl (decide (i<=j))) (rI0 fun i j=> .bl (decide (i<=j))) ta tb tc) σ H (.bl (decide (i<=j/\j<=k))):=fun Q q=>by
 refine h1 _ (h2 _ ⟨i,j,rfl,rfl,_,rfl,?_⟩)
 by_cases h:i<=j
 ·rw [decide_eq_true h,if_pos rfl]
  refine h3 _ ⟨j,k,rfl,rfl,?_⟩
  have e:decide (i<=j/\j<=k)=decide (j<=k):=by simp [h]
  rw [e] at q
  exact q
 ·rw [decide_eq_false h,if_neg Bool.false_ne_true]
  have e:decide (i<=j/\j<=k)=false:=by simp [h]
  rw [e] at q
  exact q
theorem Etest {t:TE} {b:Bool} (h:EvE t σ H (.bl b)):Ev (tTest t) σ H b:=fun Qb q=>h _ ⟨b,rfl,q⟩
def Es (t:TT) (σ:L2.St) (H:Hp) (b:Bool):Prop:=∀Qb:Bool->Hp->Prop,(∀H',Same H H'->Qb b H')->t σ H Qb
theorem Ev.es {t:TT} {b:Bool} (h:Ev t σ H b):Es t σ H b:=fun Qb q=>h Qb (q H (Same.refl H))
theorem Esor {t u:TT} {b1 b2:Bool} (h1:Es t σ H b1) (h2:b1=false->∀H',Same H H'->Es u σ H' b2):Es (tOr t u) σ H (b1||b2):=fun Qb q=>h1 _ fun H' s=>by
 cases b1 with
 |true=>exact q H' s
 |false=>exact h2 rfl H' s Qb fun H2 s2=>q H2 (s.trans s2)
theorem Esnot {t:TT} {b:Bool} (h:Es t σ H b):Es (tNot t) σ H (!b):=fun Qb q=>h _ q
theorem es {t:TT} {b:Bool} {Qb:Bool->Hp->Prop} (h:Es t σ H b) (q:∀H',Same H H'->Qb b H'):t σ H Qb:=h Qb q
def EsE (t:TE) (σ:L2.St) (H:Hp) (v:V):Prop:=∀Q:VK,(∀H',Same H H'->Q v H')->t σ H Q
theorem EvE.es {t:TE} {v:V} (h:EvE t σ H v):EsE t σ H v:=fun Q q=>h Q (q H (Same.refl H))
theorem EsEand {t u:TE} {b1 b2:Bool} (h1:EsE t σ H (.bl b1)) (h2:b1=true->∀H',Same H H'->EsE u σ H' (.bl b2)):EsE (tAndV t u) σ H (.bl (b1&&b2)):=fun Q q=>h1 _ fun H' s=>⟨b1,rfl,by
 cases b1 with
 |false=>exact q H' s
 |true=>exact h2 rfl H' s Q fun H2 s2=>q H2 (s.trans s2)⟩
theorem raise {C:Addr} {f:Str} {E:XK} {t:TA} (h:t σ H fun vs H1=>∃v,vs= [v]/\∀dx,H1 dx=none->E (.ref C) (some dx) (upd H1 dx (.xd [(f,v)]))):tRaise C f E t D σ H:=h
end
end R
namespace R
open PySem PySem.Spec PyProof.Rows L2 XL
theorem paired_snoc {α β:Type} {F:α->β->Prop}:∀{l:List α} {m:List β} {x:α} {y:β},Paired F l m->F x y->Paired F (l++ [x]) (m++ [y])
 |_,_,_,_,.nil,h=> .cons h .nil
 |_,_,_,_,.cons r t,h=> .cons r (paired_snoc t h)
theorem paired_imp {α β:Type} {F G:α->β->Prop} (f:∀a b,F a b->G a b):∀{l:List α} {m:List β},Paired F l m->Paired G l m
 |_,_,.nil=> .nil
 |_,_,.cons r t=> .cons (f _ _ r) (paired_imp f t)
theorem range_filter_succ (n:Nat) (p:Nat->Bool):(List.range (n+1)).filter p=(List.range n).filter p++(if p n=true then [n] else []):=by
 rw [List.range_succ,List.filter_append]
 congr 1
 cases h:p n<;>simp [h]
def FrD (D:Addr) (H H':Hp):Prop:=∀b o,b≠D->H b=some o->H' b=some o
theorem lc_gen {J : It} {g : TG} {tt : TT} {te : TE} {vs : List Nat} {σ : L2.St} {H1 : Hp} {Q : Addr -> Hp -> Prop} (n : Nat) (p : Nat -> Bool) (YR : Nat -> V -> Hp -> Prop) (Rl : Addr -> Nat -> V -> Hp -> Prop)
  (stab : ∀ D i y H H', FrD D H H' -> Rl D i y H -> Rl D i y H') (hz : n <= sizeLine)
  (go : ∀ i H, Same H1 H -> i < n -> J.go i H) (stop : ∀ H, Same H1 H -> J.stop n H) (yl : ∀ i H x H', i < n -> Same H1 H -> J.yld i H x H' -> Same H H' /\ YR i x H')
  (body : ∀ i x H D (Y : V -> Hp -> Prop) (Z : Hp -> Prop), i < n -> Same H1 H -> H1 D = none -> (∃ acc, H D = some (.lst acc)) -> YR i x H -> (∀ y H2, Same H H2 -> p i = true -> Rl D i y H2 -> Y y H2) -> (∀ H2, Same H H2 -> p i = false -> Z H2) ->
   g x (wipe σ vs) H fun σ2 H2 => wipe σ2 vs = wipe σ vs /\ tt σ2 H2 fun b H3 => if b = true then te σ2 H3 fun y H4 => Y y H4 else Z H3)
  (q : ∀ D ys H', H1 D = none -> H' D = some (.lst ys) -> Same H1 H' -> Paired (fun i y => Rl D i y H') ((List.range n).filter p) ys -> Q D H') :
  ∀ D, H1 D = none -> ∃ W : Nat -> Nat -> Hp -> Prop, (∃ m, W 0 m (upd H1 D (.lst []))) /\ ∀ i m H, W i m H ->
   (J.stop i H /\ Q D H) ∨ (J.go i H /\ ∃ Nx : Hp -> Prop, (∀ H', Nx H' -> ∃ m', m' < m /\ W (i + 1) m' H') /\ ∀ x H', J.yld i H x H' -> g x (wipe σ vs) H' fun σ2 H2 => wipe σ2 vs = wipe σ vs /\ tt σ2 H2 fun b H3 =>
    if b = true then te σ2 H3 fun y H4 => ∃ acc, H4 D = some (.lst acc) /\ acc.length < sizeLine /\ Nx (upd H4 D (.lst (acc ++ [y]))) else Nx H3) := by
 intro D hD
 refine ⟨fun i m H => m = n - i /\ i <= n /\ Same H1 H /\ ∃ acc, H D = some (.lst acc) /\ acc.length <= i /\ Paired (fun i y => Rl D i y H) ((List.range i).filter p) acc, ⟨n, rfl, Nat.zero_le _, (new_of hD).2.2, [], upd_same, Nat.le_refl _, .nil⟩, ?_⟩
 rintro i m H ⟨rfl, hi, sm, acc, hacc, hal, hp⟩
 by_cases hlt : i < n
 ·refine .inr ⟨go i H sm hlt, fun H' => Same H1 H' /\ ∃ acc, H' D = some (.lst acc) /\ acc.length <= i + 1 /\ Paired (fun i y => Rl D i y H') ((List.range (i + 1)).filter p) acc, fun H' h => ⟨n - (i + 1), by omega, rfl, hlt, h⟩, fun x H' hy => ?_⟩
  obtain ⟨s1, yr⟩ := yl i H x H' hlt sm hy
  have sm' := sm.trans s1
  refine body i x H' D _ _ hlt sm' hD ⟨acc, s1 _ _ hacc⟩ yr (fun y H2 s2 hpi hr => ?_) (fun H2 s2 hpi => ?_)
  ·have ha2 := s2 _ _ (s1 _ _ hacc)
   have frd : FrD D H2 (upd H2 D (.lst (acc ++ [y]))) := fun b o nb e => by rw [upd_ne nb]; exact e
   have frd0 : FrD D H (upd H2 D (.lst (acc ++ [y]))) := fun b o nb e => frd b o nb (s2 _ _ (s1 _ _ e))
   refine ⟨acc, ha2, by omega, fun b o e => ?_, acc ++ [y], upd_same, by rw [List.length_append]; simp; omega, ?_⟩
   ·rw [upd_ne (ne_of_none e hD)]
    exact s2 _ _ (sm' _ _ e)
   ·rw [range_filter_succ, if_pos hpi]
    exact paired_snoc (paired_imp (fun i y h => stab D i y _ _ frd0 h) hp) (stab D i y _ _ frd hr)
  ·refine ⟨sm'.trans s2, acc, s2 _ _ (s1 _ _ hacc), by omega, ?_⟩
   rw [range_filter_succ, if_neg (by rw [hpi]; exact Bool.false_ne_true), List.append_nil]
   exact paired_imp (fun i y h => stab D i y _ _ (fun b o _ e => s2 _ _ (s1 _ _ e)) h) hp
 ·have e : i = n := by omega
  subst e
  exact .inl ⟨stop H sm, q D acc H hD hacc sm hp⟩
theorem paired_eq {α:Type} {f:Nat->α}:∀{l:List Nat} {ys:List α},Paired (fun i y=>y=f i) l ys->ys=l.map f
 |_,_,.nil=>rfl
 |_,_,.cons h t=>by rw [h,paired_eq t];rfl
section
variable {K:W.Frag} {H1:Hp}
theorem itl_go {l:Addr} {xs:List V} (hl:SqL K H1 l xs):∀i H,Same H1 H->i < xs.length->(Itl K l).go i H:=fun i H s hi=>⟨xs,xs[i],s.seq hl,List.getElem?_eq_getElem hi⟩
theorem itl_stop {l:Addr} {xs:List V} (hl:SqL K H1 l xs):∀H,Same H1 H->(Itl K l).stop xs.length H:=fun H s=>⟨xs,s.seq hl,Nat.le_refl _⟩
theorem itl_yld {l:Addr} {xs:List V} (hl:SqL K H1 l xs):∀i H x H',i < xs.length->Same H1 H->(Itl K l).yld i H x H'->Same H H'/\xs[i]? =some x:=fun i H x H' _ s h=>by
 obtain ⟨rfl,h⟩:=h
 exact ⟨Same.refl _,h xs (s.seq hl)⟩
theorem itr_go {lo:Int} {n:Nat}:∀i H,Same H1 H->i < n->(Itr lo n).go i H:=fun _ _ _ h=>h
theorem itr_stop {lo:Int} {n:Nat}:∀H,Same H1 H->(Itr lo n).stop n H:=fun _ _=>Nat.le_refl _
theorem itr_yld {lo:Int} {n:Nat}:∀i H x H',i < n->Same H1 H->(Itr lo n).yld i H x H'->Same H H'/\x= .int (lo+i):=fun i H x H' _ _ h=>by
 obtain ⟨rfl,h⟩:=h
 exact ⟨Same.refl _,h⟩
theorem its_go {z:Str}:∀i H,Same H1 H->i < z.cps.size->(Its z).go i H:=fun _ _ _ h=>h
theorem its_stop {z:Str}:∀H,Same H1 H->(Its z).stop z.cps.size H:=fun _ _=>Nat.le_refl _
theorem its_yld {z:Str}:∀i H x H',i < z.cps.size->Same H1 H->(Its z).yld i H x H'->Same H H'/\∃c,z.cps[i]? =some c/\x= .str ⟨#[c]⟩:=fun i H x H' _ _ h=>by
 obtain ⟨rfl,h⟩:=h
 exact ⟨Same.refl _,h⟩
theorem ite_go {l:Addr} {xs:List V} (hl:SqL K H1 l xs):∀i H,Same H1 H->i < xs.length->(Ite K l).go i H:=fun i H s hi=>⟨xs,xs[i],s.seq hl,List.getElem?_eq_getElem hi⟩
theorem ite_stop {l:Addr} {xs:List V} (hl:SqL K H1 l xs):∀H,Same H1 H->(Ite K l).stop xs.length H:=fun H s=>⟨xs,s.seq hl,Nat.le_refl _⟩
theorem ite_yld {l:Addr} {xs:List V} (hl:SqL K H1 l xs):∀i H x H',i < xs.length->Same H1 H->(Ite K l).yld i H x H'->Same H H'/\∃T y,x= .ref T/\H' T=some (.tup [.int (i:Nat),y])/\xs[i]? =some y:=fun i H x H' _ s h=>by
 obtain ⟨T,y,rfl,hT,rfl,h⟩:=h
 exact ⟨(new_of hT).2.2,T,y,rfl,upd_same,h xs (s.seq hl)⟩
end
section
variable {K:W.Frag} {H1:Hp} {σ:L2.St} {Q:VK}
theorem lc {wi : TI} {g : TG} {tt : TT} {te : TE} {vs : List Nat} {H : Hp} (h : wi σ H fun J H1 => ∀ D, H1 D = none -> ∃ W : Nat -> Nat -> Hp -> Prop, (∃ m, W 0 m (upd H1 D (.lst []))) /\ ∀ i m H, W i m H ->
 (J.stop i H /\ Q (.ref D) H) ∨ (J.go i H /\ ∃ Nx : Hp -> Prop, (∀ H', Nx H' -> ∃ m', m' < m /\ W (i + 1) m' H') /\ ∀ x H', J.yld i H x H' -> g x (wipe σ vs) H' fun σ2 H2 => wipe σ2 vs = wipe σ vs /\ tt σ2 H2 fun b H3 =>
  if b = true then te σ2 H3 fun y H4 => ∃ acc, H4 D = some (.lst acc) /\ acc.length < sizeLine /\ Nx (upd H4 D (.lst (acc ++ [y]))) else Nx H3)) : tLc wi g tt te vs σ H Q := h
theorem il {tl:TE} {H:Hp} {R:It->Hp->Prop} (h:tl σ H fun x H1=>∃a,x= .ref a/\(∃xs,SqL K H1 a xs)/\R (Itl K a) H1):iList K tl σ H R:=h
theorem kil {l:Addr} {xs:List V} {H:Hp} {R:Addr->Prop} (hl:SqL K H l xs) (h:R l):∃a,V.ref l= .ref a/\(∃xs,SqL K H a xs)/\R a:=⟨l,rfl,⟨xs,hl⟩,h⟩
theorem lc_pureL {Q : Addr -> Hp -> Prop} {l : Addr} {xs : List V} {i : Nat} {te : TE} (f : V -> V) (hl : SqL K H1 l xs) (hz : xs.length <= sizeLine) (hw : ∀ x, wipe ((wipe σ [i]).set i (some x)) [i] = wipe σ [i])
  (he : ∀ x, x ∈ xs -> ∀ H, Same H1 H -> EvE te ((wipe σ [i]).set i (some x)) H (f x)) (q : ∀ D H', H1 D = none -> H' D = some (.lst (xs.map f)) -> Same H1 H' -> Q D H') :
  ∀ D, H1 D = none -> ∃ W : Nat -> Nat -> Hp -> Prop, (∃ m, W 0 m (upd H1 D (.lst []))) /\ ∀ j m H, W j m H ->
   ((Itl K l).stop j H /\ Q D H) ∨ ((Itl K l).go j H /\ ∃ Nx : Hp -> Prop, (∀ H', Nx H' -> ∃ m', m' < m /\ W (j + 1) m' H') /\ ∀ x H', (Itl K l).yld j H x H' -> gName i x (wipe σ [i]) H' fun σ2 H2 => wipe σ2 [i] = wipe σ [i] /\ tYes σ2 H2 fun b H3 =>
    if b = true then te σ2 H3 fun y H4 => ∃ acc, H4 D = some (.lst acc) /\ acc.length < sizeLine /\ Nx (upd H4 D (.lst (acc ++ [y]))) else Nx H3) := by
 refine lc_gen xs.length (fun _ => true) (fun i x _ => xs[i]? = some x) (fun _ j y _ => y = f (xs.getD j .non)) (fun _ _ _ _ _ _ h => h) hz (itl_go hl) (itl_stop hl) (itl_yld hl) (fun j x H D Y Z hj sm hD hacc yr yes no => ?_) (fun D ys H' hD hys sm hp => ?_)
 ·refine ⟨hw x, ?_⟩
  refine he x (List.mem_of_getElem? yr) H sm _ ?_
  exact (yes _ H (Same.refl _) rfl (by rw [List.getD_eq_getElem?_getD, yr]; rfl))
 ·rw [List.filter_eq_self.mpr (fun _ _ => rfl)] at hp
  have e : ys = xs.map f := by
   rw [paired_eq (f := fun j => f (xs.getD j .non)) hp]
   refine List.ext_getElem? fun j => ?_
   rw [List.getElem?_map, List.getElem?_map]
   by_cases h : j < xs.length
   ·rw [List.getElem?_range h, List.getElem?_eq_getElem h]
    simp [List.getD_eq_getElem?_getD, List.getElem?_eq_getElem h]
   ·rw [List.getElem?_eq_none (by simpa using h), List.getElem?_eq_none (by omega)]
    rfl
  rw [e] at hys
  exact q D H' hD hys sm
theorem lc_pureS {Q : Addr -> Hp -> Prop} {z : Str} {i : Nat} {te : TE} (f : Nat -> V) (hz : z.cps.size <= sizeLine) (hw : ∀ x, wipe ((wipe σ [i]).set i (some x)) [i] = wipe σ [i])
  (he : ∀ c, c ∈ z.cps.toList -> ∀ H, Same H1 H -> EvE te ((wipe σ [i]).set i (some (.str ⟨#[c]⟩))) H (f c)) (q : ∀ D H', H1 D = none -> H' D = some (.lst (z.cps.toList.map f)) -> Same H1 H' -> Q D H') :
  ∀ D, H1 D = none -> ∃ W : Nat -> Nat -> Hp -> Prop, (∃ m, W 0 m (upd H1 D (.lst []))) /\ ∀ j m H, W j m H ->
   ((Its z).stop j H /\ Q D H) ∨ ((Its z).go j H /\ ∃ Nx : Hp -> Prop, (∀ H', Nx H' -> ∃ m', m' < m /\ W (j + 1) m' H') /\ ∀ x H', (Its z).yld j H x H' -> gName i x (wipe σ [i]) H' fun σ2 H2 => wipe σ2 [i] = wipe σ [i] /\ tYes σ2 H2 fun b H3 =>
    if b = true then te σ2 H3 fun y H4 => ∃ acc, H4 D = some (.lst acc) /\ acc.length < sizeLine /\ Nx (upd H4 D (.lst (acc ++ [y]))) else Nx H3) := by
 refine lc_gen z.cps.size (fun _ => true) (fun i x _ => ∃ c, z.cps[i]? = some c /\ x = .str ⟨#[c]⟩) (fun _ j y _ => y = f (z.cps.toList.getD j 0)) (fun _ _ _ _ _ _ h => h) hz its_go its_stop its_yld (fun j x H D Y Z hj sm hD hacc yr yes no => ?_) (fun D ys H' hD hys sm hp => ?_)
 ·obtain ⟨c, hc, rfl⟩ := yr
  have hc' : z.cps.toList[j]? = some c := by simpa using hc
  refine ⟨hw _, ?_⟩
  refine he c (List.mem_of_getElem? hc') H sm _ ?_
  exact (yes _ H (Same.refl _) rfl (by rw [List.getD_eq_getElem?_getD, hc']; rfl))
 ·rw [List.filter_eq_self.mpr (fun _ _ => rfl)] at hp
  have e : ys = z.cps.toList.map f := by
   rw [paired_eq (f := fun j => f (z.cps.toList.getD j 0)) hp]
   refine List.ext_getElem? fun j => ?_
   rw [List.getElem?_map, List.getElem?_map]
   by_cases h : j < z.cps.toList.length
   ·rw [List.getElem?_range (by simpa using h), List.getElem?_eq_getElem h]
    simp only [Option.map_some, List.getD_eq_getElem?_getD, List.getElem?_eq_getElem h, Option.getD_some]
   ·rw [List.getElem?_eq_none (by simpa using h), List.getElem?_eq_none (by omega)]
    rfl
  rw [e] at hys
  exact q D H' hD hys sm
theorem is_ {te:TE} {H:Hp} {R:It->Hp->Prop} (h:te σ H fun v H1=>∃x,v= .str x/\R (Its x) H1):iStr te σ H R:=h
theorem kis {z:Str} {R:Str->Prop} (h:R z):∃x,V.str z= .str x/\R x:=⟨z,rfl,h⟩
theorem rg1 {ta:TA} {H:Hp} {R:It->Hp->Prop} (h:ta σ H fun vs H1=>∃j:Int,vs= [.int j]/\-(2 ^ 62)<=j/\j < 2 ^ 62/\R (Itr 0 j.toNat) H1):iRng1 ta σ H R:=h
theorem rg2 {ta:TA} {H:Hp} {R:It->Hp->Prop} (h:ta σ H fun vs H1=>∃i j:Int,vs= [.int i,.int j]/\(-(2 ^ 62)<=i/\i < 2 ^ 62/\-(2 ^ 62)<=j/\j < 2 ^ 62)/\R (Itr i (j - i).toNat) H1):iRng2 ta σ H R:=h
theorem for_ {wi:TI} {g:TG} {tb:TS} {D:Ends} {H:Hp} (h:wi σ H fun J H1=>∃W:Nat->Nat->L2.St->Hp->Prop,(∃m,W 0 m σ H1)/\∀i m σ H,W i m σ H->
  (J.stop i H/\D.nx σ H)∨(J.go i H/\∃N:L2.St->Hp->Prop,(∀σ' H',N σ' H'->∃m',m' < m/\W (i+1) m' σ' H')/\∀x H',J.yld i H x H'->g x σ H' fun σ2 H2=>tb {D with nx:=N,ct:=N,bk:=D.nx} σ2 H2)):tFor wi g tb D σ H:=h
theorem sub_ {to ti:TE} {t:TSet} {v:V} {H:Hp} {N:L2.St->Hp->Prop} (h:to σ H fun o H1=>ti σ H1 fun i H2=>t o i v H2 fun H3=>N σ H3):gSub to ti t v σ H N:=h
theorem setl {p:Addr} {xs:List V} {i:Int} {j:Nat} {v:V} {H:Hp} {N:Hp->Prop} (h:H p=some (.lst xs)) (e:i=(j:Int)) (hj:j < xs.length) (q:N (upd H p (.lst (xs.set j v)))):rSetL (.ref p) (.int i) v H N:=by
 subst e
 refine ⟨p,xs,j,j,rfl,rfl,h,?_,q⟩
 unfold ixN
 rw [if_pos (by omega),if_pos (by omega)]
 simp
end
end R
namespace Q
open PySem PySem.Spec PyProof.Rows L2 XL
open Quire (Sign Word Sig Gath Fate)
open QuireCopies (Line)
def txV (t:List Nat):List V:=t.map fun n:Nat=>V.int (n:Int)
def curF (ch:Addr) (p e:Nat):List (Str×V):= [("chars",.ref ch),("place",.int p),("end",.int e)]
def CurAt (a:Adr) (H:Hp) (c ch:Addr) (p e:Nat):Prop:=∃dx,H c=some (.ins a.c_150 dx (curF ch p e))
def quiF (sg lv gp:Addr) (n:Int):List (Str×V):= [("signature",.ref sg),("size",.int n),("leaves",.ref lv),("gaps",.ref gp)]
def chV (c:Option Nat):V:=match c with|none=> .non|some n=> .int (n:Int)
def nowC (t:List Nat) (p e:Nat):Option Nat:=if p < e then t[p]? else none
def spPeek (a:Adr) (K:W.Frag):Sp:=fun vs H Q _=>∃c ch p e t,vs= [.ref c]/\CurAt a H c ch p e/\SqL K H ch (txV t)/\e<=t.length/\Q (chV (nowC t p e)) H
def Fr (c:Addr) (H H':Hp):Prop:=∀b o,H b=some o->b≠c->H' b=some o
theorem Fr.trans {c:Addr} {H H1 H2:Hp} (x:Fr c H H1) (y:Fr c H1 H2):Fr c H H2:=fun b o e n=>y b o (x b o e n) n
theorem Fr.refl {c:Addr} {H:Hp}:Fr c H H:=fun _ _ e _=>e
theorem Fr.of_same {c:Addr} {H H':Hp} (s:Same H H'):Fr c H H':=fun b o e _=>s b o e
theorem Fr.seq {c ch:Addr} {H H':Hp} {K:W.Frag} {xs:List V} {o:HO} (x:Fr c H H') (hc:H c=some o) (no:∀ys,o≠ .lst ys) (nf:∀ob u,o≠ .frz ob u) (h:SqL K H ch xs):SqL K H' ch xs:=by
 rcases h with (h|⟨ob,h⟩)|h
 ·exact .inl (.inl (x _ _ h fun z=>by subst z;rw [h] at hc;exact no _ (Option.some.inj hc).symm))
 ·exact .inl (.inr ⟨ob,x _ _ h fun z=>by subst z;rw [h] at hc;exact nf _ _ (Option.some.inj hc).symm⟩)
 ·exact .inr h
theorem Fr.seqC {a:Adr} {c ch ch':Addr} {p e:Nat} {H H':Hp} {K:W.Frag} {xs:List V} (x:Fr c H H') (hc:CurAt a H c ch' p e) (h:SqL K H ch xs):SqL K H' ch xs:=by
 obtain ⟨dx,hc⟩:=hc
 exact x.seq hc (fun _ z=>nomatch z) (fun _ _ z=>nomatch z) h
def Rz (a:Adr) (E:XK) (x:Nat):Prop:=∀H' dx,H' dx=some (.xd [("place",.int (x:Int))])->E (.ref a.c_76) (some dx) H'
def rest (t:List Nat) (p e:Nat):List Nat:=(t.take e).drop p
theorem rest_now {t:List Nat} {p e n:Nat} (h:nowC t p e=some n):rest t p e=n::rest t (p+1) e:=by
 unfold nowC at h
 split at h
 ·rename_i hp
  obtain ⟨hl,e1⟩:=List.getElem?_eq_some_iff.mp h
  unfold rest
  have h2:p < (t.take e).length:=by rw [List.length_take];omega
  rw [List.drop_eq_getElem_cons h2,List.getElem_take,e1]
 ·cases h
theorem rest_none {t:List Nat} {p e:Nat} (he:e<=t.length) (h:nowC t p e=none):rest t p e= []:=by
 unfold nowC at h
 split at h
 ·rename_i hp
  rw [List.getElem?_eq_getElem (by omega)] at h
  cases h
 ·unfold rest
  rw [List.drop_eq_nil_iff,List.length_take]
  omega
theorem now_lt {t:List Nat} {p e n:Nat} (h:nowC t p e=some n):p < e:=by
 unfold nowC at h
 split at h
 ·assumption
 ·cases h
def Does (a:Adr) (c ch:Addr) (e:Nat) (H:Hp) (E:XK) {α:Type} (r:Except Nat (α×Nat×List Nat)) (k:α->Nat->Hp->Prop):Prop:=match r with
 | .error x=>Rz a E x
 | .ok (v,q,_)=>∀H',CurAt a H' c ch q e->Fr c H H'->k v q H'
end Q
namespace R
open PySem PySem.Spec PyProof.Rows L2 XL Q
section
variable {σ:L2.St} {H H1:Hp} {Q:VK} {D:Ends} {K:W.Frag} {mg:Str->Option Value} {a:Adr}
theorem cplace {c dx ch:Addr} {p e:Nat} (T:Txt K mg a) (h:H c=some (.ins a.c_150 dx (curF ch p e))) (q:Q (.int p) H):kFld K "place" Q (.ref c) H:=kfld h T.cl_150 T.no_Cursor_place rfl q
theorem cchars {c dx ch:Addr} {p e:Nat} (T:Txt K mg a) (h:H c=some (.ins a.c_150 dx (curF ch p e))) (q:Q (.ref ch) H):kFld K "chars" Q (.ref c) H:=kfld h T.cl_150 T.no_Cursor_chars rfl q
theorem cend {c dx ch:Addr} {p e:Nat} (T:Txt K mg a) (h:H c=some (.ins a.c_150 dx (curF ch p e))) (q:Q (.int e) H):kFld K "end" Q (.ref c) H:=kfld h T.cl_150 T.no_Cursor_end rfl q
theorem qsig {c dx sg lv gp:Addr} {n:Int} (T:Txt K mg a) (h:H c=some (.ins a.c_157 dx (quiF sg lv gp n))) (q:Q (.ref sg) H):kFld K "signature" Q (.ref c) H:=kfld h T.cl_157 T.no_Quire_signature rfl q
theorem qsize {c dx sg lv gp:Addr} {n:Int} (T:Txt K mg a) (h:H c=some (.ins a.c_157 dx (quiF sg lv gp n))) (q:Q (.int n) H):kFld K "size" Q (.ref c) H:=kfld h T.cl_157 T.no_Quire_size rfl q
theorem qleaves {c dx sg lv gp:Addr} {n:Int} (T:Txt K mg a) (h:H c=some (.ins a.c_157 dx (quiF sg lv gp n))) (q:Q (.ref lv) H):kFld K "leaves" Q (.ref c) H:=kfld h T.cl_157 T.no_Quire_leaves rfl q
theorem qgaps {c dx sg lv gp:Addr} {n:Int} (T:Txt K mg a) (h:H c=some (.ins a.c_157 dx (quiF sg lv gp n))) (q:Q (.ref gp) H):kFld K "gaps" Q (.ref c) H:=kfld h T.cl_157 T.no_Quire_gaps rfl q
theorem peek {c ch dx:Addr} {p e:Nat} {t:List Nat} {E:XK} (h:H c=some (.ins a.c_150 dx (curF ch p e))) (hs:SqL K H ch (txV t)) (he:e<=t.length) (q:Q (chV (nowC t p e)) H):spPeek a K (V.ref c::([]++ [])) H Q E:=⟨c,ch,p,e,t,rfl,⟨dx,h⟩,hs,he,q⟩
theorem lstr {t:TA} (h:t σ H fun xs H1=>xs.length<=sizeLine/\∀p,H1 p=none->Q (.ref p) (upd H1 p (.lst xs))):tLst t σ H Q:=h
theorem tupr {t:TA} (h:t σ H fun xs H1=>xs.length<=sizeLine/\∀p,H1 p=none->Q (.ref p) (upd H1 p (.tup xs))):tTup t σ H Q:=h
theorem lnew {xs:List V} (hz:xs.length<=sizeLine) (h:∀p H2,New H p (.lst xs) H2->Q (.ref p) H2):xs.length<=sizeLine/\∀p,H p=none->Q (.ref p) (upd H p (.lst xs)):=⟨hz,fun p hp=>h p _ (new_of hp)⟩
theorem meth {C:Addr} {m:Str} {sp:Sp} {dvs:List V} {E:XK} {ta:TE} {t:TA} (h:ta σ H fun x H1=>∃a dx fs,x= .ref a/\H1 a=some (.ins C dx fs)/\fs.lookup m=none/\t σ H1 fun vs H2=>sp (x::(vs++dvs)) H2 Q E):tMeth C m sp dvs E ta t σ H Q:=h
theorem kmeth {C c dx:Addr} {fs:List (Str×V)} {m:Str} {A:Prop} (h:H c=some (.ins C dx fs)) (l:fs.lookup m=none) (q:A):∃a dx fs,V.ref c= .ref a/\H a=some (.ins C dx fs)/\fs.lookup m=none/\A:=⟨c,dx,fs,rfl,h,l,q⟩
theorem aug {i:Nat} {te:TE} {ti:TIp} {x:V} (e:σ[i]? =some (some x)) (h:te σ H fun y H1=>ti x y H1 fun z H2=>D.nx (σ.set i (some z)) H2):tAug i te ti D σ H:=⟨x,e,h⟩
theorem ipi {f:Int->Int->Int} {i j:Int} (q:Q (.int (f i j)) H):ipI f (.int i) (.int j) H Q:=⟨i,j,rfl,rfl,q⟩
end
end R
local macro_rules | `(tactic| walk_at "go") => `(tactic| repeat (first
 | with_reducible apply R.seq | with_reducible apply R.ret | with_reducible apply R.var rfl | with_reducible apply R.con | with_reducible apply R.fld
 | with_reducible apply R.cplace (by assumption) (by assumption) | with_reducible apply R.cchars (by assumption) (by assumption) | with_reducible apply R.cend (by assumption) (by assumption)
 | with_reducible apply R.qsig (by assumption) (by assumption) | with_reducible apply R.qsize (by assumption) (by assumption) | with_reducible apply R.qleaves (by assumption) (by assumption) | with_reducible apply R.qgaps (by assumption) (by assumption)
 | with_reducible apply R.op | with_reducible apply R.un | with_reducible apply R.rU | with_reducible apply R.i0 | with_reducible apply R.eq_ rfl | with_reducible apply R.ne_ rfl | with_reducible apply R.test | with_reducible apply R.bl | with_reducible apply R.truB | with_reducible apply R.notT
 | with_reducible apply R.next | with_reducible apply R.drop | with_reducible apply R.asg | with_reducible apply R.name | with_reducible apply R.ifs | with_reducible apply R.tnot | with_reducible apply R.tb
 | with_reducible apply R.ifE | with_reducible apply R.nil | with_reducible apply R.cons | with_reducible apply R.call | with_reducible apply R.cb | with_reducible apply R.bm | with_reducible apply R.bm0
 | with_reducible apply R.kmeth (by assumption) rfl | with_reducible apply R.peek (by assumption) (by assumption) (by assumption) | with_reducible apply R.lc | with_reducible apply R.il | with_reducible apply R.sub_ | with_reducible apply R.rg1 | with_reducible apply R.rg2 | with_reducible apply R.is_ | with_reducible apply R.kis | with_reducible apply R.kil (by assumption) | with_reducible apply R.lstr | with_reducible apply R.tupr | with_reducible apply R.raise | with_reducible apply R.meth | with_reducible apply R.aug rfl | with_reducible apply R.ipi))
local macro_rules | `(tactic| walk_at "ev") => `(tactic| first
  | (with_reducible apply R.Evor
     · walk_at "ev"
     · walk_at "ev")
  | (with_reducible apply R.Evand
     · walk_at "ev"
     · walk_at "ev")
  | (with_reducible apply R.Evnot
     · walk_at "ev")
  | (intro Qb q
     walk_at "go"
     exact q))
local macro_rules | `(tactic| walk_at "for") => `(tactic| (with_reducible apply R.for_; walk_at "go"))
local macro_rules | `(tactic| walk_at "eve") => `(tactic| (intro Qv q; walk_at "go"; exact q))
local macro_rules | `(tactic| walk_at "or") => `(tactic| first
  | (with_reducible apply R.evor
     · walk_at "ev"
     · walk_at "ev"))
local macro_rules | `(tactic| walk_at "and") => `(tactic| first
  | (with_reducible apply R.evand
     · walk_at "ev"
     · walk_at "ev"))
local macro_rules | `(tactic| walk_at "go0") => `(tactic| ((try dsimp only [L2.cxOf, L2.Cx.nox, L2.Cx.wish, L2.Cx.blk]); walk_at "go"))
namespace Q
open PySem PySem.Spec PyProof.Rows L2 XL
open Quire (Sign Word Sig Gath Fate)
open QuireCopies (Line)
section
variable {P:Program} {w:World} {K:W.Frag} {mg:Str->Option Value} {base:Heap} {a:Adr}
theorem txV_at {t:List Nat} {p:Nat} {n:Nat} (h:t[p]? =some n):(txV t)[p]? =some (V.int (n:Int)):=by
 unfold txV
 rw [List.getElem?_map,h]
 rfl
theorem ok_42 (T:Txt K mg a):FnOk P w K mg base (CXd P w) 1 a.f_42 a.d_42 ["self"] (spPeek a K):=by
 refine okN T.u_42 sc_42 (fun vs H Q E h=>?_) (fun cdv A outer s H vs Q E hr h=>?_)
 ·obtain ⟨_,_,_,_,_,rfl,_⟩:=h;rfl
 ·obtain ⟨c,ch,p,e,t,rfl,⟨dx,hc⟩,hs,he,k⟩:=h
  refine ⟨_,(pss_cons (ps_if (pt_cmpR op_lt (pe_fld (pv 0) rfl) (pe_fld (pv 0) rfl) (nomark _)) (pss_one (ps_ret (pe_ix ix_list (pe_fld (pv 0) rfl) (pe_fld (pv 0) rfl) (fun _ _=>rfl)))) pss_nil) (pss_one (ps_ret pe_non))),?_⟩
  walk_at "go0"
  refine R.dif (fun h=>?_) (fun h=>?_)<;>walk_at "go"
  ·have hp:p < e:=by omega
   have hl:p < t.length:=by omega
   have et:t[p]? =some t[p]:=List.getElem?_eq_getElem hl
   refine R.ixl hs (atI_nat (txV_at et)) ?_
   unfold nowC at k
   rw [if_pos hp,et] at k
   exact k
  ·unfold nowC at k
   rw [if_neg (by omega)] at k
   exact k
def spStep (a:Adr):Sp:=fun vs H Q _=>∃c ch p e,vs= [.ref c]/\CurAt a H c ch p e/\∀H',CurAt a H' c ch (p+1) e->(∀b o,H b=some o->b≠c->H' b=some o)->Q .non H'
theorem ok_43 (T:Txt K mg a):FnOk P w K mg base (CXd P w) 1 a.f_43 a.d_43 ["self"] (spStep a):=by
 refine okN T.u_43 sc_43 (fun vs H Q E h=>?_) (fun cdv A outer s H vs Q E hr h=>?_)
 ·obtain ⟨_,_,_,_,rfl,_⟩:=h;rfl
 ·obtain ⟨c,ch,p,e,rfl,⟨dx,hc⟩,k⟩:=h
  refine ⟨_,(pss_one (ps_fldaug (pv 0) pe_int in_add)),?_⟩
  refine ⟨_,rfl,c,_,dx,_,_,rfl,hc,T.cl_150,T.no_Cursor_place,rfl,_,_,rfl,rfl,dx,_,hc,(show 3 < 1000 by decide),?_⟩
  exact k _ ⟨dx,upd_same⟩ fun b o hb nb=>by rw [upd_ne nb];exact hb
end
end Q
namespace QM
open Quire
def rdLoop (d:Nat->Option Nat):Nat->Nat->Nat->Text->Rd Nat
 |_,n,p,[]=> .ok (n,p,[])
 |len,n,p,c::r=>match d c with
  |none=> .ok (n,p,c::r)
  |some x=>if len=7∨(len=1/\n=0) then .error p else rdLoop d (len+1) (10*n+x) (p+1) r
theorem more_loop (d:Nat->Option Nat):∀(t:Text) (f n p:Nat),n≠0->f<=6->moreDigits d f n p t=rdLoop d (7 - f) n p t
 | [],f,n,p,_,_=>by
  unfold moreDigits rdLoop
  split<;>rfl
 |c::r,f,n,p,hn,hf=>by
  unfold moreDigits rdLoop
  cases hd:d c with
  |none=>rfl
  |some x=>
   cases f with
   |zero=>simp
   |succ f=>
    have h7:¬(7 - (f+1)=7∨(7 - (f+1)=1/\n=0)):=by omega
    simp only [if_neg h7]
    have e:7 - (f+1)+1=7 - f:=by omega
    rw [e]
    exact more_loop d r f (10*n+x) (p+1) (by omega) (by omega)
theorem number_loop (d:Nat->Option Nat) (p:Nat) (c:Nat) (r:Text) (x:Nat) (h:d c=some x):number d p (c::r)=rdLoop d 0 0 p (c::r):=by
 unfold number rdLoop
 simp only [h]
 rw [if_neg (by omega)]
 simp only [Nat.mul_zero,Nat.zero_add]
 cases x with
 |zero=>
  cases r with
  |nil=>simp [rdLoop]
  |cons y r=>
   unfold rdLoop
   cases hy:d y<;>simp [hy]
 |succ x=>exact more_loop d r 6 (x+1) (p+1) (by omega) (by omega)
end QM
namespace QM
open Quire
def DIG:List Nat:= [48,49,50,51,52,53,54,55,56,57]
def RDIG:List Nat:= [8304,185,178,179,8308,8309,8310,8311,8312,8313]
theorem idx_nil (c:Nat):([]:List Nat).idxOf? c=none:=rfl
theorem idx_cons (a c:Nat) (l:List Nat):(a::l).idxOf? c=if a=c then some 0 else (l.idxOf? c).map (· +1):=by
 unfold List.idxOf?
 rw [List.findIdx?_cons]
 by_cases h:a=c
 ·simp [h]
 ·simp [h]
theorem digit_idx (c:Nat):digit c=DIG.idxOf? c:=by
 unfold digit DIG
 simp only [idx_cons,idx_nil]
 by_cases h:48<=c/\c<=57
 ·have hc:c=48∨c=49∨c=50∨c=51∨c=52∨c=53∨c=54∨c=55∨c=56∨c=57:=by omega
  rcases hc with h|h|h|h|h|h|h|h|h|h<;>subst h<;>rfl
 ·have n:∀k,48<=k->k<=57->¬k=c:=fun k _ _ e=>h (by omega)
  rw [if_neg h]
  simp only [if_neg (n 48 (by omega) (by omega)),if_neg (n 49 (by omega) (by omega)),if_neg (n 50 (by omega) (by omega)),if_neg (n 51 (by omega) (by omega)),if_neg (n 52 (by omega) (by omega)),
   if_neg (n 53 (by omega) (by omega)),if_neg (n 54 (by omega) (by omega)),if_neg (n 55 (by omega) (by omega)),if_neg (n 56 (by omega) (by omega)),if_neg (n 57 (by omega) (by omega)),Option.map_none]
theorem rdigit_idx (c:Nat):raisedDigit c=RDIG.idxOf? c:=by
 have e:(List.range 10).map raised=RDIG:=by decide
 unfold raisedDigit
 rw [←e]
 have gen:∀(l:List Nat) (k:Nat),(∀(i:Nat) (h:i < l.length),l[i]=k+i)->(l.find? fun d=>raised d==c)=((l.map raised).idxOf? c).map (· +k):=by
  intro l
  induction l with
  |nil=>intro k _;rfl
  |cons a l ih=>
   intro k h
   have ha:a=k:=(h 0 (Nat.zero_lt_succ _)).trans (Nat.add_zero k)
   rw [List.map_cons,idx_cons,List.find?_cons]
   by_cases hq:raised a=c
   ·rw [beq_iff_eq.mpr hq,if_pos hq,ha]
    simp
   ·have:=ih (k+1) (fun i hi=>by
     have:=h (i+1) (by simpa using hi)
     simp at this
     omega)
    simp only [hq,if_false,beq_eq_false_iff_ne.mpr hq,this,Option.map_map]
    congr 1
    funext x
    simp
    omega
 have:=gen (List.range 10) 0 (by intro i h;simp)
 simpa using this
end QM
namespace Q
open PySem PySem.Spec PyProof.Rows L2 XL
open Quire (Sign Word Sig Gath Fate)
open QuireCopies (Line)
section
variable {P:Program} {w:World} {K:W.Frag} {mg:Str->Option Value} {base:Heap} {a:Adr}
theorem ok_15 (T:Txt K mg a):FnOk P w K mg base (CXd P w) 1 a.f_15 a.d_15 ["self","place"] (spX a.c_76 "place"):=by
 refine okN T.u_15 sc_15 (fun vs H Q E h=>?_) (fun cdv A outer s H vs Q E hr h=>?_)
 ·obtain ⟨_,_,rfl,_⟩:=h;rfl
 ·obtain ⟨e,v,rfl,he,k⟩:=h
  refine ⟨_,(pss_one (ps_xfld T.xc_76 (pv 0) (pv 1) rfl)),?_⟩
  exact ⟨_,rfl,_,rfl,e,rfl,he,fun dx hd=>k dx hd⟩
def spCur (a:Adr):Sp:=fun vs H Q _=>∃x dx ch,∃p e:Nat,vs= [.ref x,.ref ch,.int p,.int e]/\H x=some (.ins a.c_150 dx [])/\Q .non (upd H x (.ins a.c_150 dx (curF ch p e)))
theorem ok_41 (T:Txt K mg a):FnOk P w K mg base (CXd P w) 1 a.f_41 a.d_41 ["self","chars","place","end"] (spCur a):=by
 refine okN T.u_41 sc_41 (fun vs H Q E h=>?_) (fun cdv A outer s H vs Q E hr h=>?_)
 ·obtain ⟨_,_,_,_,_,rfl,_⟩:=h;rfl
 ·obtain ⟨x,dx,ch,p,e,rfl,hx,k⟩:=h
  refine ⟨_,(pss_cons (ps_fld (pv 0) (pv 1) rfl) (pss_cons (ps_fld (pv 0) (pv 2) rfl) (pss_one (ps_fld (pv 0) (pv 3) rfl)))),?_⟩
  refine ⟨_,rfl,_,rfl,x,_,dx,_,rfl,hx,T.cl_150,T.no_Cursor_chars,(show 0 < 1000 by decide),?_⟩
  refine ⟨_,rfl,_,rfl,x,_,dx,_,rfl,upd_same,T.cl_150,T.no_Cursor_place,(show 1 < 1000 by decide),?_⟩
  refine ⟨_,rfl,_,rfl,x,_,dx,_,rfl,upd_same,T.cl_150,T.no_Cursor_end,(show 2 < 1000 by decide),?_⟩
  rw [upd_upd,upd_upd]
  exact k
def spTake (a:Adr) (K:W.Frag):Sp:=fun vs H Q E=>∃c ch,∃p e:Nat,∃t,∃n:Nat,vs= [.ref c,.int n]/\CurAt a H c ch p e/\SqL K H ch (txV t)/\e<=t.length/\
 Does a c ch e H E (Quire.charAt n p (rest t p e)) fun _ _ H'=>Q .non H'
theorem charAt_now {n p e:Nat} {t:List Nat} (h:nowC t p e=some n):Quire.charAt n p (rest t p e)= .ok ((),p+1,rest t (p+1) e):=by
 rw [rest_now h]
 exact if_pos rfl
theorem charAt_not {n p e:Nat} {t:List Nat} (he:e<=t.length) (h:nowC t p e≠some n):Quire.charAt n p (rest t p e)= .error p:=by
 cases q:nowC t p e with
 |none=>rw [rest_none he q];rfl
 |some m=>
  rw [rest_now q]
  exact if_neg fun z=>h (by rw [q,z])
theorem chV_eq {c:Option Nat} {n:Nat}:(chV c= .int (n:Int))↔c=some n:=by
 cases c with
 |none=>exact ⟨fun z=>(nomatch z),fun z=>(nomatch z)⟩
 |some m=>
  show V.int (m:Int)= .int (n:Int)↔_
  rw [V.int.injEq,Option.some.injEq]
  omega
theorem scal_ch {c:Option Nat} {n:Int}:scal (chV c) (.int n)=true:=by cases c<;>rfl
theorem ok_44 (T:Txt K mg a):FnOk P w K mg base (CXd P w) 3 a.f_44 a.d_44 ["self","char"] (spTake a K):=by
 refine okX T.u_44 sc_44 (fun vs H Q E h=>?_) (fun cdv A outer s H vs Q E hr h=>?_)
 ·obtain ⟨_,_,_,_,_,_,rfl,_⟩:=h;rfl
 ·obtain ⟨c,ch,p,e,t,n,rfl,⟨dx,hc⟩,hs,he,k⟩:=h
  refine ⟨_,(pss_cons (ps_if (pt_cmpR op_ne (pe_meth0 (pv 0) T.cl_150 T.me_42 (ok_42 T) (rm hr) (b_42 T) .nil passN) (pv 1) (nomark _)) (pss_one (ps_raise T.xc_76 (ok_15 T) (rm hr) rfl T.m_76 (b_15 T) passD (pa_cons (pe_fld (pv 0) rfl) pa_nil))) pss_nil) (pss_one (ps_expr (pe_meth0 (pv 0) T.cl_150 T.me_43 (ok_43 T) (rm hr) (b_43 T) .nil passN)))),?_⟩
  walk_at "go0"
  refine R.ne_ scal_ch (R.bl (R.nif (fun h=>?_) (fun h=>?_)))<;>walk_at "go"
  ·rw [chV_eq] at h
   rw [charAt_not he h] at k
   exact ⟨_,rfl,fun dx2 hd=>k _ _ upd_same⟩
  ·rw [chV_eq] at h
   rw [charAt_now h] at k
   refine ⟨c,ch,p,e,rfl,⟨dx,hc⟩,fun H' hc' fr=>?_⟩
   exact k H' hc' fr
theorem eqV_ch {c:Option Nat} {n:Nat}:eqV (.int (n:Int)) (chV c)=decide (c=some n):=by
 cases c with
 |none=>rfl
 |some m=>
  show ((n:Int)==(m:Int))=decide (some m=some n)
  by_cases h:n=m
  ·subst h;simp
  ·have h1:¬(n:Int)=(m:Int):=by omega
   have h2:¬some m=some n:=fun z=>h (Option.some.inj z).symm
   rw [decide_eq_false h2]
   exact beq_eq_false_iff_ne.mpr h1
theorem inV_tx (c:Option Nat):∀l:List Nat,inV (chV c) (txV l)=(c.bind fun n=>l.idxOf? n).isSome
 | []=>by cases c<;>rfl
 |m::l=>by
  show (eqV (.int (m:Int)) (chV c)||inV (chV c) (txV l))=_
  rw [eqV_ch,inV_tx c l]
  cases c with
  |none=>rfl
  |some n=>
   show (decide (some n=some m)||(l.idxOf? n).isSome)=((m::l).idxOf? n).isSome
   rw [QM.idx_cons]
   by_cases h:m=n
   ·subst h;simp
   ·have h2:¬some n=some m:=fun z=>h (Option.some.inj z).symm
    rw [decide_eq_false h2,if_neg h]
    cases l.idxOf? n<;>rfl
theorem flat_ch (c:Option Nat):flatV (chV c)=true:=by cases c<;>rfl
theorem flat_tx:∀l:List Nat,(txV l).all flatV=true
 | []=>rfl
 |m::l=>by
  show (flatV (.int (m:Int))&&(txV l).all flatV)=true
  rw [flat_tx l]
  rfl
theorem idx_at:∀{l:List Nat} {n j:Nat},l.idxOf? n=some j->l[j]? =some n/\∀m z,m < j->l[m]? =some z->z≠n
 | [],n,j,h=>by cases h
 |m::l,n,j,h=>by
  rw [QM.idx_cons] at h
  by_cases e:m=n
  ·rw [if_pos e] at h
   cases h
   exact ⟨by rw [e];rfl,fun k z hk=>absurd hk (Nat.not_lt_zero _)⟩
  ·rw [if_neg e] at h
   cases q:l.idxOf? n with
   |none=>rw [q] at h;cases h
   |some i=>
    rw [q] at h
    cases h
    obtain ⟨h1,h2⟩:=idx_at q
    refine ⟨h1,fun k z hk hz=>?_⟩
    cases k with
    |zero=>cases hz;exact e
    |succ k=>exact h2 k z (Nat.lt_of_succ_lt_succ hk) hz
theorem in_some {c:Option Nat} {l:List Nat} (h:(c.bind fun n=>l.idxOf? n).isSome=true):∃m,c=some m/\∃x,l.idxOf? m=some x:=by
 cases c with
 |none=>cases h
 |some m=>exact ⟨m,rfl,Option.isSome_iff_exists.mp h⟩
theorem in_none {c:Option Nat} {l:List Nat} (h:(c.bind fun n=>l.idxOf? n).isSome=false):c=none∨∃m,c=some m/\l.idxOf? m=none:=by
 cases c with
 |none=>exact .inl rfl
 |some m=>exact .inr ⟨m,rfl,by simpa using h⟩
inductive Tab (a:Adr):Addr->List Nat->Prop
 |dig:Tab a a.t_151 QM.DIG
 |rdig:Tab a a.t_27 QM.RDIG
 |signs:Tab a a.t_159 Quire.signChars
 |place:Tab a a.t_48 [124,40,41,91,93]
theorem Tab.seq {d:Addr} {l:List Nat} (h:Tab a d l) (T:Txt K mg a) (H:Hp):SqT K H d (txV l):=by
 cases h with
 |dig=>exact T.q_151 H
 |rdig=>exact T.q_27 H
 |signs=>exact T.q_159 H
 |place=>exact T.q_48 H
theorem Tab.ty {d:Addr} {l:List Nat} (h:Tab a d l) (T:Txt K mg a) (H:Hp):tyV K "tuple" (.ref d) H:=by
 cases h with
 |dig=>exact .inr (.inl ⟨rfl,T.w_151⟩)
 |rdig=>exact .inr (.inl ⟨rfl,T.w_27⟩)
 |signs=>exact .inr (.inl ⟨rfl,T.w_159⟩)
 |place=>exact .inr (.inl ⟨rfl,T.w_48⟩)
end
end Q
namespace R
open PySem PySem.Spec PyProof.Rows L2 XL Q
section
variable {σ:L2.St} {H H1:Hp} {Q:VK} {D:Ends} {K:W.Frag} {mg:Str->Option Value} {a:Adr}
theorem inT {d:Addr} {l:List Nat} {c:Option Nat} (T:Txt K mg a) (h:Tab a d l) (q:Q (.bl (c.bind fun n=>l.idxOf? n).isSome) H):rIn K false (chV c) (.ref d) H Q:=by
 refine ⟨d,txV l,rfl,.inr (h.seq T H),flat_ch c,flat_tx l,?_⟩
 rw [if_neg Bool.false_ne_true,inV_tx]
 exact q
theorem notInT {d:Addr} {l:List Nat} {c:Option Nat} (T:Txt K mg a) (h:Tab a d l) (q:Q (.bl (!(c.bind fun n=>l.idxOf? n).isSome)) H):rIn K true (chV c) (.ref d) H Q:=by
 refine ⟨d,txV l,rfl,.inr (h.seq T H),flat_ch c,flat_tx l,?_⟩
 rw [if_pos rfl,inV_tx]
 exact q
theorem tix {d:Addr} {l:List Nat} {n j:Nat} {c:Option Nat} (T:Txt K mg a) (h:Tab a d l) (hc:c=some n) (hj:l.idxOf? n=some j) (q:Q (.int (j:Nat)) H):rTIndex K (.ref d) [chV c] H Q:=by
 subst hc
 obtain ⟨h1,h2⟩:=idx_at hj
 refine ⟨d,txV l,.int (n:Int),j,.int (n:Int),rfl,rfl,h.seq T H,rfl,flat_tx l,?_,?_,fun m z hm hz=>?_,q⟩
 ·unfold txV;rw [List.getElem?_map,h1];rfl
 ·show ((n:Int)==(n:Int))=true
  exact beq_self_eq_true _
 ·unfold txV at hz
  rw [List.getElem?_map] at hz
  cases q2:l[m]? with
  |none=>rw [q2] at hz;cases hz
  |some y=>
   rw [q2] at hz
   cases hz
   have:=h2 m y hm q2
   show ((y:Int)==(n:Int))=false
   exact beq_eq_false_iff_ne.mpr (by omega)
end
end R
namespace Q
open PySem PySem.Spec PyProof.Rows L2 XL
open Quire (Sign Word Sig Gath Fate)
open QuireCopies (Line)
section
variable {P:Program} {w:World} {K:W.Frag} {mg:Str->Option Value} {base:Heap} {a:Adr}
def spNum (a:Adr) (K:W.Frag):Sp:=fun vs H Q E=>∃c ch d l,∃p e:Nat,∃t,vs= [.ref c,.ref d]/\CurAt a H c ch p e/\SqL K H ch (txV t)/\e<=t.length/\Tab a d l/\
 Does a c ch e H E (Quire.number (fun n=>l.idxOf? n) p (rest t p e)) fun n _ H'=>Q (.int (n:Nat)) H'
theorem ok_54 (T:Txt K mg a):FnOk P w K mg base (CXd P w) 3 a.f_54 a.d_54 ["cursor","digits"] (spNum a K):=by
 refine okX T.u_54 sc_54 (fun vs H Q E h=>?_) (fun cdv A outer s H vs Q E hr h=>?_)
 ·obtain ⟨_,_,_,_,_,_,_,rfl,_⟩:=h;rfl
 ·obtain ⟨c,ch,d,l,p,e,t,rfl,⟨dx,hc⟩,hs,he,tb,k⟩:=h
  refine ⟨_,(pss_cons (ps_if (pt_cmpR op_notIn_seq (pe_meth0 (pv 0) T.cl_150 T.me_42 (ok_42 T) (rm hr) (b_42 T) .nil passN) (pv 1) (by with_unfolding_all rfl)) (pss_one (ps_raise T.xc_76 (ok_15 T) (rm hr) rfl T.m_76 (b_15 T) passD (pa_cons (pe_fld (pv 0) rfl) pa_nil))) pss_nil) (pss_cons (ps_set (i:=2) sc_54.nd rfl (Or.inl rfl) pe_int) (pss_cons (ps_set (i:=3) sc_54.nd rfl (Or.inl rfl) pe_int) (pss_cons (ps_while passOwnD (pt_cmpR op_in_seq (pe_meth0 (pv 0) T.cl_150 T.me_42 (ok_42 T) (rm hr) (b_42 T) .nil passN) (pv 1) (by with_unfolding_all rfl)) (pss_cons (ps_if (PW.pt (pw_or (pt_cmpR op_eq (pv 3) (g_45 T) (nomark _)) (pw_or1 (PW.pt (pw_and (pt_cmpR op_eq (pv 3) pe_int (nomark _)) (pw_and1 (pt_cmpR op_eq (pv 2) pe_int (nomark _)))))))) (pss_one (ps_raise T.xc_76 (ok_15 T) (rm hr) rfl T.m_76 (b_15 T) passD (pa_cons (pe_fld (pv 0) rfl) pa_nil))) pss_nil) (pss_cons (ps_set (i:=2) sc_54.nd rfl (Or.inl rfl) (pe_op op_add (pe_op op_mul pe_int (pv 2)) (pe_bm PySem.F.plainAttrs_tuple PySem.F.slot_tuple_index PySem.F.type_tuple_index mt_tindex (pv 1) (pa_cons (pe_meth0 (pv 0) T.cl_150 T.me_42 (ok_42 T) (rm hr) (b_42 T) .nil passN) pa_nil)))) (pss_cons (ps_aug (i:=3) sc_54.nd rfl (Or.inl rfl) pe_int ip_add) (pss_one (ps_expr (pe_meth0 (pv 0) T.cl_150 T.me_43 (ok_43 T) (rm hr) (b_43 T) .nil passN))))))) (pss_one (ps_ret (pv 2))))))),?_⟩
  walk_at "go0"
  refine R.notInT T tb (R.bl (R.bbnif (fun h=>?_) (fun h=>?_)))<;>walk_at "go"
  ·have e1:Quire.number (fun n=>l.idxOf? n) p (rest t p e)= .error p:=by
    cases q:nowC t p e with
    |none=>rw [rest_none he q];rfl
    |some m=>
     rw [q] at h
     rw [rest_now q]
     have q2:l.idxOf? m=none:=by simpa using h
     unfold Quire.number
     simp only [q2]
   rw [e1] at k
   exact ⟨_,rfl,fun dx2 hd=>k _ _ upd_same⟩
  ·obtain ⟨m,q,x,q2⟩:=in_some h
   have e1:Quire.number (fun n=>l.idxOf? n) p (rest t p e)=QM.rdLoop (fun n=>l.idxOf? n) 0 0 p (rest t p e):=by
    rw [rest_now q]
    exact QM.number_loop (fun n=>l.idxOf? n) p m _ x q2
   rw [e1] at k
   clear e1 h q q2
   refine ⟨fun z σ' H'=>∃n len y:Nat,z=e - y/\σ'= [some (.ref c),some (.ref d),some (.int (n:Int)),some (.int (len:Int))]/\CurAt a H' c ch y e/\Fr c H H'/\
    Does a c ch e H E (QM.rdLoop (fun n=>l.idxOf? n) len n y (rest t y e)) fun n _ H'=>Q (.int (n:Nat)) H',⟨_,0,0,p,rfl,rfl,⟨dx,hc⟩,Fr.refl,k⟩,?_⟩
   rintro z σ' H' ⟨n,len,y,rfl,rfl,⟨dx',hc'⟩,fr,k'⟩
   have hs':SqL K H' ch (txV t):=fr.seqC ⟨dx,hc⟩ hs
   clear k hc hs
   walk_at "go"
   refine R.inT T tb (R.bl (R.bbif (fun h=>?_) (fun h=>?_)))
   ·obtain ⟨m,q,x,q2⟩:=in_some h
    refine ⟨_,fun _ _ h=>h,?_⟩
    walk_at "go"
    walk_at "or"
    refine R.bbif (fun h=>?_) (fun h=>?_)<;>walk_at "go"
    ·have h7:len=7∨(len=1/\n=0):=by
      simp only [Bool.or_eq_true,Bool.and_eq_true,decide_eq_true_eq,V.int.injEq] at h
      omega
     rw [rest_now q] at k'
     unfold QM.rdLoop at k'
     simp only [q2,if_pos h7] at k'
     exact ⟨_,rfl,fun dx2 hd=>k' _ _ upd_same⟩
    ·have h7:¬(len=7∨(len=1/\n=0)):=by
      simp only [Bool.or_eq_false_iff,Bool.and_eq_false_iff,decide_eq_false_iff_not,V.int.injEq] at h
      omega
     rw [rest_now q] at k'
     unfold QM.rdLoop at k'
     simp only [q2,if_neg h7] at k'
     refine R.iC (.inl ⟨by decide,by decide⟩) ?_
     walk_at "go"
     refine ⟨tb.ty T _,?_⟩
     walk_at "go"
     refine R.tix T tb q q2 ?_
     walk_at "go"
     refine ⟨c,ch,y,e,rfl,⟨dx',hc'⟩,fun H2 hc2 fr2=>?_⟩
     have lt:=now_lt q
     exact ⟨e - (y+1),by omega,10*n+x,len+1,y+1,rfl,rfl,hc2,fr.trans fr2,k'⟩
   ·walk_at "go"
    have e2:QM.rdLoop (fun n=>l.idxOf? n) len n y (rest t y e)= .ok (n,y,rest t y e):=by
     rcases in_none h with q|⟨m,q,q2⟩
     ·rw [rest_none he q];rfl
     ·rw [rest_now q]
      unfold QM.rdLoop
      simp only [q2]
    rw [e2] at k'
    exact k' H' ⟨dx',hc'⟩ fr
end
open Quire (Sign Word)
def code:Sign->Int
 | .alone=>124
 | .opens=>40
 | .closes=>41
 | .stubOpens=>91
 | .stubCloses=>93
def wdV (w:Word):List V:=w.map fun s=>V.int (code s)
theorem wdV_len (w:Word):(wdV w).length=w.length:=List.length_map ..
theorem wdV_at {w:Word} {i:Nat} {x:V} (h:(wdV w)[i]? =some x):∃s,w[i]? =some s/\x= .int (code s):=by
 unfold wdV at h
 rw [List.getElem?_map] at h
 cases e:w[i]? with
 |none=>rw [e] at h;cases h
 |some s=>rw [e] at h;exact ⟨s,rfl,(Option.some.inj h).symm⟩
theorem drop_at {α:Type} {l:List α} {i:Nat} {x:α} (h:l[i]? =some x):l.drop i=x::l.drop (i+1):=by
 obtain ⟨hi,e⟩:=List.getElem?_eq_some_iff.mp h
 rw [List.drop_eq_getElem_cons hi,e]
section
variable {P:Program} {w:World} {K:W.Frag} {mg:Str->Option Value} {base:Heap} {a:Adr}
def spWd (K:W.Frag) (f:Word->Bool):Sp:=fun vs H Q _=>∃l wd,vs= [.ref l]/\SqL K H l (wdV wd)/\wd.length<=1000000/\∀H',Same H H'->Q (.bl (f wd)) H'
theorem same_upd_new {H:Hp} {p:Addr} {o:HO} (h:H p=none):Same H (upd H p o):=fun b u e=>by rw [upd_ne (ne_of_none e h)];exact e
theorem same_upd {H0 H:Hp} {p:Addr} {o:HO} (s:Same H0 H) (h:H0 p=none):Same H0 (upd H p o):=fun b u e=>by rw [upd_ne (ne_of_none e h)];exact s b u e
theorem ok_37 (T:Txt K mg a):FnOk P w K mg base (CXd P w) 1 a.f_37 a.d_37 ["signs"] (spWd K Quire.right):=by
 refine okN T.u_37 sc_37 (fun vs H Q E h=>?_) (fun cdv A outer s H vs Q E hr h=>?_)
 ·obtain ⟨_,_,rfl,_⟩:=h;rfl
 ·obtain ⟨l,wd,rfl,hl,_,k⟩:=h
  refine ⟨_,(pss_cons (ps_if (pt_cmpR op_gt (pe_callB call_len_seq (by rfl) T.b_len PySem.boot_len (pa_cons (pv 0) pa_nil)) (g_46 T) (nomark _)) (pss_one (ps_ret pe_bl)) pss_nil) (pss_cons (ps_set (i:=1) sc_37.nd rfl (Or.inl rfl) (pe_lst pa_nil)) (pss_cons (ps_for PassesOwn.never rfl (pi_list (pv 0)) (pg_name (i:=2) sc_37.nd rfl (Or.inl rfl)) (pss_one (ps_if (PW.pt (pw_or (pt_cmpR op_eq (pv 2) (g_58 T) (nomark _)) (pw_or1 (pt_cmpR op_eq (pv 2) (g_61 T) (nomark _))))) (pss_one (ps_expr (pe_bm PySem.F.plainAttrs_list PySem.F.slot_list_append PySem.F.type_list_append mt_append (pv 1) (pa_cons (pv 2) pa_nil)))) (pss_one (ps_if (pt_cmpR op_ne (pv 2) (g_153 T) (nomark _)) (pss_cons (ps_if (pt_not (pt_truth (pv 1) (fun _=>rfl))) (pss_one (ps_ret pe_bl)) pss_nil) (pss_cons (ps_set (i:=3) sc_37.nd rfl (Or.inl rfl) (pe_bm0 PySem.F.plainAttrs_list PySem.F.slot_list_pop PySem.F.type_list_pop mt_pop (pv 1))) (pss_one (ps_if (PW.pt (pw_and (pt_cmpR op_eq (pv 3) (g_61 T) (nomark _)) (pw_and1 (pt_cmpR op_eq (pv 2) (g_75 T) (nomark _))))) (pss_one (ps_ret pe_bl)) pss_nil)))) pss_nil))))) (pss_one (ps_ret (pe_notT (pv 1))))))),?_⟩
  walk_at "go0"
  refine ⟨l,_,rfl,.inl hl,?_⟩
  walk_at "go"
  rw [wdV_len]
  refine R.dif (fun h=>?_) (fun h=>?_)<;>walk_at "go"
  ·have e:Quire.right wd=false:=by
    unfold Quire.right Quire.PLACES
    rw [decide_eq_false (by omega)]
    rfl
   rw [e] at k
   exact k H (Same.refl H)
  ·have e:Quire.right wd=Quire.scan [] wd:=by
    unfold Quire.right Quire.PLACES Quire.paired
    rw [decide_eq_true (by omega)]
    rfl
   rw [e] at k
   clear e
   refine ⟨Nat.zero_le _,fun p hp=>?_⟩
   have nw:=R.new_of (o:= .lst []) hp
   generalize upd H p (.lst [])=H2 at nw⊢
   obtain ⟨n1,h1,sm⟩:=nw
   walk_at "go"
   refine ⟨_,rfl,l,rfl,⟨_,sm.seq hl⟩,for_list (K:=K) (a:=l) (xs:=wdV wd) (fun i σ H'=>∃(st:List Sign) (v2 v3:Option V),σ= [some (.ref l),some (.ref p),v2,v3]/\Same H H'/\H' p=some (.lst (wdV st.reverse))/\st.length<=i/\Quire.scan [] wd=Quire.scan st (wd.drop i))
    ⟨[],none,none,rfl,sm,h1,Nat.zero_le _,rfl⟩ (fun i σ H' _ ⟨_,_,_,_,s5,_⟩=>s5.seq hl) ?_ ?_⟩
   ·rintro i y σ H' hi ⟨st,v2,v3,rfl,s5,hp,hle,sc⟩
    obtain ⟨sg,hsg,rfl⟩:=wdV_at hi
    have hil:i < wd.length:=(List.getElem?_eq_some_iff.mp hsg).1
    rw [drop_at hsg] at sc
    walk_at "go"
    walk_at "or"
    have push:∀H2:Hp,H2=upd H' p (.lst (wdV st.reverse++ [.int (code sg)]))->Quire.scan [] wd=Quire.scan (sg::st) (wd.drop (i+1))->∃(st:List Sign) (v2 v3':Option V),[some (V.ref l),some (.ref p),some (V.int (code sg)),v3]= [some (.ref l),some (.ref p),v2,v3']/\Same H H2/\H2 p=some (.lst (wdV st.reverse))/\st.length<=i+1/\Quire.scan [] wd=Quire.scan st (wd.drop (i+1)):=by
     rintro H2 rfl sc2
     refine ⟨sg::st,_,_,rfl,same_upd s5 n1,?_,Nat.succ_le_succ hle,sc2⟩
     rw [upd_same,List.reverse_cons]
     unfold wdV
     rw [List.map_append]
     rfl
    have sz:(wdV st.reverse).length < sizeLine:=by
     rw [wdV_len,List.length_reverse]
     exact small1000 (by omega)
    cases sg with
    |opens=>
     refine (if_pos rfl:_=_).mpr ?_
     walk_at "go"
     refine ⟨.inl ⟨rfl,_,SqL.of hp⟩,?_⟩
     walk_at "go"
     exact ⟨p,_,_,rfl,rfl,hp,sz,push _ rfl sc⟩
    |stubOpens=>
     refine (if_pos rfl:_=_).mpr ?_
     walk_at "go"
     refine ⟨.inl ⟨rfl,_,SqL.of hp⟩,?_⟩
     walk_at "go"
     exact ⟨p,_,_,rfl,rfl,hp,sz,push _ rfl sc⟩
    |alone=>
     refine (if_neg (by decide):_=_).mpr ?_
     walk_at "go"
     refine (if_neg (by decide):_=_).mpr ?_
     walk_at "go"
     exact ⟨st,_,_,rfl,s5,hp,by omega,sc⟩
    |closes=>
     refine (if_neg (by decide):_=_).mpr ?_
     walk_at "go"
     refine (if_pos (by decide):_=_).mpr ?_
     walk_at "go"
     refine R.truL (SqL.of hp) ?_
     cases st with
     |nil=>
      refine (if_pos rfl:_=_).mpr ?_
      walk_at "go"
      have e:Quire.scan [] wd=false:=sc.trans rfl
      rw [e] at k
      exact k H' s5
     |cons o st=>
      have er:wdV (o::st).reverse=wdV st.reverse++ [.int (code o)]:=by
       rw [List.reverse_cons]
       unfold wdV
       rw [List.map_append]
       rfl
      rw [er] at hp⊢
      refine (if_neg (by simp):_=_).mpr ?_
      walk_at "go"
      refine ⟨.inl ⟨rfl,_,SqL.of hp⟩,p,_,.int (code o),rfl,rfl,hp,by simp,?_⟩
      rw [List.dropLast_concat]
      walk_at "go"
      walk_at "and"
      have hle2:st.length<=i+1:=by simp only [List.length_cons] at hle;omega
      have sm2:=same_upd (o:= .lst (wdV st.reverse)) s5 n1
      cases o with
      |opens=>
       refine (if_neg (by decide):_=_).mpr ?_
       walk_at "go"
       exact ⟨st,_,_,rfl,sm2,upd_same,hle2,sc.trans rfl⟩
      |closes=>
       refine (if_neg (by decide):_=_).mpr ?_
       walk_at "go"
       exact ⟨st,_,_,rfl,sm2,upd_same,hle2,sc.trans rfl⟩
      |alone=>
       refine (if_neg (by decide):_=_).mpr ?_
       walk_at "go"
       exact ⟨st,_,_,rfl,sm2,upd_same,hle2,sc.trans rfl⟩
      |stubCloses=>
       refine (if_neg (by decide):_=_).mpr ?_
       walk_at "go"
       exact ⟨st,_,_,rfl,sm2,upd_same,hle2,sc.trans rfl⟩
      |stubOpens=>
       refine (if_neg (by decide):_=_).mpr ?_
       walk_at "go"
       exact ⟨st,_,_,rfl,sm2,upd_same,hle2,sc.trans rfl⟩
    |stubCloses=>
     refine (if_neg (by decide):_=_).mpr ?_
     walk_at "go"
     refine (if_pos (by decide):_=_).mpr ?_
     walk_at "go"
     refine R.truL (SqL.of hp) ?_
     cases st with
     |nil=>
      refine (if_pos rfl:_=_).mpr ?_
      walk_at "go"
      have e:Quire.scan [] wd=false:=sc.trans rfl
      rw [e] at k
      exact k H' s5
     |cons o st=>
      have er:wdV (o::st).reverse=wdV st.reverse++ [.int (code o)]:=by
       rw [List.reverse_cons]
       unfold wdV
       rw [List.map_append]
       rfl
      rw [er] at hp⊢
      refine (if_neg (by simp):_=_).mpr ?_
      walk_at "go"
      refine ⟨.inl ⟨rfl,_,SqL.of hp⟩,p,_,.int (code o),rfl,rfl,hp,by simp,?_⟩
      rw [List.dropLast_concat]
      walk_at "go"
      walk_at "and"
      have hle2:st.length<=i+1:=by simp only [List.length_cons] at hle;omega
      have sm2:=same_upd (o:= .lst (wdV st.reverse)) s5 n1
      cases o with
      |opens=>
       refine (if_neg (by decide):_=_).mpr ?_
       walk_at "go"
       exact ⟨st,_,_,rfl,sm2,upd_same,hle2,sc.trans rfl⟩
      |closes=>
       refine (if_neg (by decide):_=_).mpr ?_
       walk_at "go"
       exact ⟨st,_,_,rfl,sm2,upd_same,hle2,sc.trans rfl⟩
      |alone=>
       refine (if_neg (by decide):_=_).mpr ?_
       walk_at "go"
       exact ⟨st,_,_,rfl,sm2,upd_same,hle2,sc.trans rfl⟩
      |stubCloses=>
       refine (if_neg (by decide):_=_).mpr ?_
       walk_at "go"
       exact ⟨st,_,_,rfl,sm2,upd_same,hle2,sc.trans rfl⟩
      |stubOpens=>
       refine (if_pos (by decide):_=_).mpr ?_
       walk_at "go"
       have e:Quire.scan [] wd=false:=sc.trans rfl
       rw [e] at k
       exact k _ sm2
   ·rintro σ H' ⟨st,v2,v3,rfl,s5,hp,hle,sc⟩
    rw [wdV_len,List.drop_length] at sc
    walk_at "go"
    refine R.truL (SqL.of hp) ?_
    have e:(!(!(wdV st.reverse).isEmpty))=Quire.scan [] wd:=by
     rw [sc]
     cases st with
     |nil=>rfl
     |cons o st=>
      have:(wdV (o::st).reverse).isEmpty=false:=by
       unfold wdV
       simp
      rw [this]
      rfl
    show Q (.bl (!(!(wdV st.reverse).isEmpty))) H'
    rw [e]
    exact k H' s5
theorem size_ok {n:Nat} (h:n<=1000000):n<=sizeLine:=by rw [sizeLine_eq];omega
theorem anyB (w:Word) (f:Sign->Bool) (g:V->V) (h:∀s,g (.int (code s))= .bl (f s)):(wdV w).map g=(w.map f).map V.bl:=by
 unfold wdV
 rw [List.map_map,List.map_map]
 exact List.map_congr_left fun s _=>h s
def leafB:V->V
 | .int i=> .bl (decide (V.int i= .int 124)||(decide (V.int i= .int 40)||decide (V.int i= .int 41)))
 |_=> .non
theorem ok_136 (T:Txt K mg a):FnOk P w K mg base (CXd P w) 1 a.f_136 a.d_136 ["signs"] (spWd K Quire.hasLeaf):=by
 refine okN T.u_136 sc_136 (fun vs H Q E h=>?_) (fun cdv A outer s H vs Q E hr h=>?_)
 ·obtain ⟨_,_,rfl,_⟩:=h;rfl
 ·obtain ⟨l,wd,rfl,hl,hz,k⟩:=h
  refine ⟨_,(pss_one (ps_ret (pe_callB (cr_any rfl) (by rfl) T.b_any (by rfl) (pa_cons (pe_lc rfl sc_136.nd (pi_list (pv 0)) (blkOk_by (own:= [("sign",1)]) rfl) (fun _ _ _ _ _=>(pg_name (i:=1) sc_136.nd rfl (Or.inl rfl))) (fun _ _ _ _ _=>pts_nil) (fun _ _ _ _ _=>(pe_or (pe_cmpR op_eq (pv 1) (g_153 T) (nomark _)) (pe_or (pe_cmpR op_eq (pv 1) (g_58 T) (nomark _)) (pe_one (pe_cmpR op_eq (pv 1) (g_71 T) (nomark _))))))) pa_nil)))),?_⟩
  walk_at "go0"
  refine R.lc_pureL leafB hl (by rw [wdV_len];exact size_ok hz) ?_ (fun x hx H' sm=>?_) (fun D H' hD hys sm=>?_)
  ·intro _;rfl
  ·obtain ⟨sg,_,rfl⟩:=List.mem_map.mp hx
   refine R.Eor ?_ fun _=>R.Eor ?_ fun _=>?_<;>(intro Q q;walk_at "go";exact q)
  ·walk_at "go"
   rw [anyB wd Sign.leaf leafB (fun s=>by cases s<;>rfl)] at hys
   refine ⟨D,_,rfl,SqL.of hys,?_⟩
   have e:((wd.map Sign.leaf).any id)=Quire.hasLeaf wd:=by
    unfold Quire.hasLeaf
    rw [List.any_map]
    rfl
   rw [e]
   exact k H' sm
def aloneB:V->V
 | .int i=> .bl (decide (V.int i= .int 124))
 |_=> .non
theorem ok_62 (T:Txt K mg a):FnOk P w K mg base (CXd P w) 1 a.f_62 a.d_62 ["signs"] (spWd K Quire.counted):=by
 refine okN T.u_62 sc_62 (fun vs H Q E h=>?_) (fun cdv A outer s H vs Q E hr h=>?_)
 ·obtain ⟨_,_,rfl,_⟩:=h;rfl
 ·obtain ⟨l,wd,rfl,hl,hz,k⟩:=h
  refine ⟨_,(pss_one (ps_ret (pe_and (pe_chain op_le op_le pe_int (pe_callB call_len_seq (by rfl) T.b_len PySem.boot_len (pa_cons (pv 0) pa_nil)) (g_35 T) rfl) (pe_one (pe_callB (cr_all rfl) (by rfl) T.b_all (by rfl) (pa_cons (pe_lc rfl sc_62.nd (pi_list (pv 0)) (blkOk_by (own:= [("sign",1)]) rfl) (fun _ _ _ _ _=>(pg_name (i:=1) sc_62.nd rfl (Or.inl rfl))) (fun _ _ _ _ _=>pts_nil) (fun _ _ _ _ _=>(pe_cmpR op_eq (pv 1) (g_153 T) (nomark _)))) pa_nil)))))),?_⟩
  walk_at "go0"
  refine R.andV (R.Echain (i:=1) (j:=wd.length) (k:=9) ?_ ?_ ?_ _ (R.bl (R.dif (fun h=>?_) (fun h=>?_))))
  ·walk_at "eve"
  ·intro Qv q
   walk_at "go"
   refine ⟨l,_,rfl,.inl hl,?_⟩
   rw [wdV_len]
   exact q
  ·walk_at "eve"
  ·walk_at "go"
   refine R.lc_pureL aloneB hl (by rw [wdV_len];exact size_ok hz) ?_ (fun x hx H' sm=>?_) (fun D H' hD hys sm=>?_)
   ·intro _;rfl
   ·obtain ⟨sg,_,rfl⟩:=List.mem_map.mp hx
    walk_at "eve"
   ·walk_at "go"
    rw [anyB wd (fun s=>s== .alone) aloneB (fun s=>by cases s<;>rfl)] at hys
    refine ⟨D,_,rfl,SqL.of hys,?_⟩
    have e:((wd.map (fun s=>s==Sign.alone)).all id)=Quire.counted wd:=by
     unfold Quire.counted
     have h1:decide (1<=wd.length)=true:=decide_eq_true (by omega)
     have h2:decide (wd.length<=9)=true:=decide_eq_true (by omega)
     rw [h1,h2,List.all_map]
     simp
    rw [e]
    exact k H' sm
  ·have e:Quire.counted wd=false:=by
    unfold Quire.counted
    have h1:(decide (1<=wd.length)&&decide (wd.length<=9))=false:=by
     rw [Bool.and_eq_false_iff,decide_eq_false_iff_not,decide_eq_false_iff_not]
     omega
    rw [h1,Bool.and_false]
   rw [e] at k
   exact k H (Same.refl H)
end
open Quire (Sign Word Sig)
def numT (l:List Nat) (n:Nat):List Nat:=(Quire.digits 20 n).map fun k=>l.getD k 0
theorem digits_num:∀(f n:Nat),n < 10 ^ (f+1)->TL.numL n=(Quire.digits (f+1) n).map (48+ ·)
 |f,n,h=>by
  unfold Quire.digits
  by_cases h10:n < 10
  ·rw [if_pos h10,TL.numL_lt h10]
   rfl
  ·rw [if_neg h10,TL.numL_step (by omega),List.map_append]
   cases f with
   |zero=>exact absurd h (by omega)
   |succ f=>
    rw [digits_num f (n / 10) (by rw [Nat.pow_succ] at h;omega)]
    rfl
theorem digits_lt:∀(f n:Nat),∀k∈Quire.digits f n,k < 10
 |0,_,k,h=>nomatch h
 |f+1,n,k,h=>by
  unfold Quire.digits at h
  by_cases h10:n < 10
  ·rw [if_pos h10] at h
   rw [List.mem_singleton.mp h]
   exact h10
  ·rw [if_neg h10] at h
   rcases List.mem_append.mp h with h|h
   ·exact digits_lt f _ k h
   ·rw [List.mem_singleton.mp h]
    omega
theorem dec_num (n:Nat):Quire.decimal n=numT QM.DIG n:=by
 unfold Quire.decimal numT
 refine List.map_congr_left fun k hk=>?_
 have h:=digits_lt 20 n k hk
 have:∀k,k < 10->48+k=QM.DIG.getD k 0:=by decide
 exact this k h
theorem int_one {d:Nat} (h:d < 10):intText? (⟨#[48+d]⟩:Str)=some (d:Int):=by
 have e:(⟨#[48+d]⟩:Str)=Str.ofString (toString ((d:Nat):Int)):=by
  have:=TL.tl_num d
  rw [TL.numL_lt h] at this
  exact (TL.mk_tl _).symm.trans (by rw [this])|>.symm
 rw [e]
 exact TL.int_num (by rw [TL.numL_lt h];simp)
section
variable {P:Program} {w:World} {K:W.Frag} {mg:Str->Option Value} {base:Heap} {a:Adr}
def spNT (a:Adr):Sp:=fun vs H Q _=>∃d l,∃n:Nat,vs= [.int (n:Int),.ref d]/\Tab a d l/\l.length≥10/\n < 100000000/\∀p H',H p=none->H' p=some (.lst (txV (numT l n)))->Same H H'->Q (.ref p) H'
theorem ok_51 (T:Txt K mg a):FnOk P w K mg base (CXd P w) 1 a.f_51 a.d_51 ["number","digits"] (spNT a):=by
 refine okN T.u_51 sc_51 (fun vs H Q E h=>?_) (fun cdv A outer s H vs Q E hr h=>?_)
 ·obtain ⟨_,_,_,rfl,_⟩:=h;rfl
 ·obtain ⟨d,l,n,rfl,tb,hl,hn,k⟩:=h
  refine ⟨_,(pss_one (ps_ret (pe_lc rfl sc_51.nd (pi_str (pe_callTy call_str_int (by rfl) T.b_str (by rfl) (pa_cons (pv 0) pa_nil))) (blkOk_by (own:= [("figure",2)]) rfl) (fun _ _ _ _ _=>(pg_name (i:=2) sc_51.nd rfl (Or.inl rfl))) (fun _ _ _ _ _=>pts_nil) (fun _ _ _ _ _=>(pe_ix (r:=rIxT K) ix_tup (pv 1) (pe_callTy call_int_str (by rfl) T.b_int (by rfl) (pa_cons (pv 2) pa_nil)) (fun _ _=>rfl)))))),?_⟩
  walk_at "go0"
  have en:TL.tl (Str.ofString (toString ((n:Nat):Int)))=(Quire.digits 20 n).map (48+ ·):=by
   rw [TL.tl_num]
   exact digits_num 19 n (by omega)
  refine ⟨(n:Int),rfl,?_,?_⟩
  ·rw [Int.natAbs_natCast]
   by_cases h0:n=0
   ·subst h0;decide
   ·exact Nat.lt_trans ((Nat.log2_lt h0).mpr (show n < 2 ^ 27 by omega)) (by decide)
  walk_at "go"
  have el:(Str.ofString (toString ((n:Nat):Int))).cps.toList=(Quire.digits 20 n).map (48+ ·):=en
  have ez:(Str.ofString (toString ((n:Nat):Int))).cps.size<=sizeLine:=by
   have z:=TL.numL_len (n:=n) (k:=8) (by decide) (by omega)
   rw [←TL.tl_num] at z
   have z2:(Str.ofString (toString ((n:Nat):Int))).cps.size<=8:=by simpa [TL.tl] using z
   exact Nat.le_trans z2 (by rw [sizeLine_eq];decide)
  refine R.lc_pureS (fun c=> .int ((l.getD (c - 48) 0:Nat):Int)) ez ?_ (fun c hc H' sm=>?_) (fun D H' hD hys sm=>?_)
  ·intro _;rfl
  ·rw [el] at hc
   obtain ⟨k,hk,rfl⟩:=List.mem_map.mp hc
   have k10:=digits_lt 20 n k hk
   intro Qv q
   walk_at "go"
   refine ⟨_,(k:Int),rfl,int_one k10,(show 1<=640 by decide),?_⟩
   have hkl:l[k]? =some (l.getD k 0):=by
    rw [List.getD_eq_getElem?_getD,List.getElem?_eq_getElem (by omega)]
    rfl
   refine R.ixt (tb.seq T _) (atI_nat (txV_at hkl)) ?_
   have e:(48+k) - 48=k:=by omega
   rw [e] at q
   exact q
  ·refine k D H' hD ?_ sm
   rw [hys,el]
   unfold txV numT
   rw [List.map_map,List.map_map]
   congr 2
   refine List.map_congr_left fun k _=>?_
   show V.int ((l.getD (48+k - 48) 0:Nat):Int)=V.int ((l.getD k 0:Nat):Int)
   rw [Nat.add_sub_cancel_left]
end
open Quire (Sign Word Sig)
def sgV (s:Sig):List V:= [.int (s.times:Int),.int (s.sign:Int)]
section
variable {P:Program} {w:World} {K:W.Frag} {mg:Str->Option Value} {base:Heap} {a:Adr}
def spIL:Sp:=fun vs H Q _=>∃n:Nat,vs= [.int (n:Int)]/\Q (.bl (decide (n < 46))) H
theorem ok_78 (T:Txt K mg a):FnOk P w K mg base (CXd P w) 1 a.f_78 a.d_78 ["sign"] spIL:=by
 refine okN T.u_78 sc_78 (fun vs H Q E h=>?_) (fun cdv A outer s H vs Q E hr h=>?_)
 ·obtain ⟨_,rfl,_⟩:=h;rfl
 ·obtain ⟨n,rfl,k⟩:=h
  refine ⟨_,(pss_one (ps_ret (pe_cmpR op_lt (pv 0) (pe_op op_mul pe_int (g_83 T)) (nomark _)))),?_⟩
  walk_at "go0"
  refine R.iC (.inl ⟨by decide,by decide⟩) ?_
  walk_at "go"
  have e:decide ((n:Int) < 2*23)=decide (n < 46):=by
   by_cases h:n < 46
   ·rw [decide_eq_true h,decide_eq_true (by omega)]
   ·rw [decide_eq_false h,decide_eq_false (by omega)]
  rw [e]
  exact k
def spSB (K:W.Frag):Sp:=fun vs H Q _=>∃p s,vs= [.ref p]/\SqT K H p (sgV s)/\s.times<=99/\
 (match s.next with
 |none=>∀H',Same H H'->Q .non H'
 |some z=>∀p' H',H' p'=some (.tup (sgV z))->Same H H'->Q (.ref p') H')
theorem ok_3 (T:Txt K mg a):FnOk P w K mg base (CXd P w) 2 a.f_3 a.d_3 ["signature"] (spSB K):=by
 refine okN T.u_3 sc_3 (fun vs H Q E h=>?_) (fun cdv A outer s H vs Q E hr h=>?_)
 ·obtain ⟨_,_,rfl,_⟩:=h;rfl
 ·obtain ⟨p,⟨sn,tm⟩,rfl,hp,ht,k⟩:=h
  have ht:tm<=99:=ht
  refine ⟨_,(pss_cons (ps_set (i:=1) sc_3.nd rfl (Or.inl rfl) (pe_ix ix_tup (pv 0) pe_int (fun _ _=>rfl))) (pss_cons (ps_set (i:=2) sc_3.nd rfl (Or.inl rfl) (pe_ix ix_tup (pv 0) pe_int (fun _ _=>rfl))) (pss_cons (ps_if (pt_not (pt_truth (pe_call (ok_78 T) (rm hr) rfl T.m_78 T.u_78.kp (b_78 T) .nil passN (pa_cons (pv 2) pa_nil)) (fun _=>rfl))) (pss_one (ps_ret pe_non)) pss_nil) (pss_cons (ps_if (pt_cmpR op_lt (pe_op op_mod (pv 2) (g_83 T)) (pe_op op_sub (g_83 T) pe_int) (nomark _)) (pss_one (ps_ret (pe_tup (pa_cons (pv 1) (pa_cons (pe_op op_add (pv 2) pe_int) pa_nil))))) pss_nil) (pss_cons (ps_if (pt_cmpR op_eq (pv 1) (g_59 T) (nomark _)) (pss_one (ps_ret pe_non)) pss_nil) (pss_one (ps_ret (pe_tup (pa_cons (pe_op op_add (pv 1) pe_int) (pa_cons (pe_op op_sub (pv 2) (pe_op op_sub (g_83 T) pe_int)) pa_nil)))))))))),?_⟩
  have i0:atI (sgV ⟨sn,tm⟩) 0=some (.int (tm:Int)):=atI_nat (j:=0) rfl
  have i1:atI (sgV ⟨sn,tm⟩) 1=some (.int (sn:Int)):=atI_nat (j:=1) rfl
  walk_at "go0"
  refine R.ixt hp i0 ?_
  walk_at "go"
  refine R.ixt hp i1 ?_
  walk_at "go"
  refine ⟨sn,rfl,?_⟩
  walk_at "go"
  unfold Quire.Sig.next at k
  refine R.bbnif (fun h=>?_) (fun h=>?_)<;>walk_at "go"
  ·have h1:2*Quire.LETTERS<=sn:=by
    have:=of_decide_eq_false h
    unfold Quire.LETTERS
    omega
   rw [if_pos h1] at k
   exact k H (Same.refl H)
  ·have h1:¬2*Quire.LETTERS<=sn:=by
    have:=of_decide_eq_true h
    unfold Quire.LETTERS
    omega
   rw [if_neg h1] at k
   refine R.iC (by decide) ?_
   walk_at "go"
   refine R.dif (fun h2=>?_) (fun h2=>?_)<;>walk_at "go"
   ·have h3:sn % Quire.LETTERS+1 < Quire.LETTERS:=by
     unfold Quire.LETTERS
     omega
    rw [if_pos h3] at k
    exact ⟨(by show 2<=sizeLine;decide),fun p' hp'=>k p' _ upd_same (same_upd_new hp')⟩
   ·have h3:¬sn % Quire.LETTERS+1 < Quire.LETTERS:=by
     unfold Quire.LETTERS
     omega
    rw [if_neg h3] at k
    refine R.dif (fun h4=>?_) (fun h4=>?_)<;>walk_at "go"
    ·rw [V.int.injEq] at h4
     have h5:¬tm < Quire.TIMES:=by
      unfold Quire.TIMES
      omega
     have h5':¬(Quire.Sig.mk sn tm).times < Quire.TIMES:=h5
     rw [if_neg h5'] at k
     exact k H (Same.refl H)
    ·rw [V.int.injEq] at h4
     have h5:(Quire.Sig.mk sn tm).times < Quire.TIMES:=by
      show tm < 99
      omega
     rw [if_pos h5] at k
     refine ⟨(by show 2<=sizeLine;decide),fun p' hp'=>k p' _ ?_ (same_upd_new hp')⟩
     rw [upd_same]
     unfold sgV
     have e1:((tm:Int)+1)=((tm+1:Nat):Int):=by omega
     have e2:((sn:Int) - (23 - 1))=((sn+1 - Quire.LETTERS:Nat):Int):=by
      have:Quire.LETTERS<=sn+1:=by
       unfold Quire.LETTERS at h3⊢
       omega
      unfold Quire.LETTERS at this⊢
      omega
     rw [e1,e2]
theorem txV_app (l m:List Nat):txV (l++m)=txV l++txV m:=List.map_append ..
theorem txV_len (l:List Nat):(txV l).length=l.length:=List.length_map ..
def spTx (K:W.Frag) {α:Type} (pre:α->List V->Hp->Prop) (f:α->List Nat):Sp:=fun vs H Q _=>∃x,pre x vs H/\∀p H',H p=none->H' p=some (.lst (txV (f x)))->Same H H'->Q (.ref p) H'
def preSig (K:W.Frag) (s:Sig) (vs:List V) (H:Hp):Prop:=∃p,vs= [.ref p]/\SqT K H p (sgV s)/\s.ok=true
theorem sig_ok {s:Sig} (h:s.ok=true):s.sign < 50/\1<=s.times/\s.times<=99:=by
 unfold Quire.Sig.ok at h
 simp only [Bool.and_eq_true,decide_eq_true_eq] at h
 exact h
theorem digits_len:∀(f n:Nat),n < 10 ^ (f+1)->(Quire.digits (f+1) n).length<=f+1:=fun f n h=>by
 have e:=congrArg List.length (digits_num f n h)
 rw [List.length_map] at e
 rw [←e]
 exact TL.numL_len (by omega) h
theorem digits_more:∀(f g n:Nat),n < 10 ^ (f+1)->f<=g->Quire.digits (g+1) n=Quire.digits (f+1) n
 |0,g,n,h,_=>by
  have h10:n < 10:=by simpa using h
  unfold Quire.digits
  rw [if_pos h10,if_pos h10]
 |f+1,0,n,h,hg=>absurd hg (by omega)
 |f+1,g+1,n,h,hg=>by
  by_cases h10:n < 10
  ·unfold Quire.digits
   rw [if_pos h10,if_pos h10]
  ·unfold Quire.digits
   rw [if_neg h10,if_neg h10,digits_more f g (n / 10) (by rw [Nat.pow_succ] at h;omega) (by omega)]
theorem numT_len {l:List Nat} {n:Nat} (h:n < 100000000):(numT l n).length<=8:=by
 unfold numT
 rw [List.length_map,digits_more 7 19 n (by omega) (by omega)]
 exact digits_len 7 n (by omega)
theorem ok_21 (T:Txt K mg a):FnOk P w K mg base (CXd P w) 2 a.f_21 a.d_21 ["signature"] (spTx K (preSig K) Sig.text):=by
 refine okN T.u_21 sc_21 (fun vs H Q E h=>?_) (fun cdv A outer s H vs Q E hr h=>?_)
 ·obtain ⟨_,⟨_,rfl,_⟩,_⟩:=h;rfl
 ·obtain ⟨⟨sn,tm⟩,⟨p,rfl,hp,hok⟩,k⟩:=h
  obtain ⟨o1,o2,o3⟩:=sig_ok hok
  have o1:sn < 50:=o1
  have o2:1<=tm:=o2
  have o3:tm<=99:=o3
  refine ⟨_,(pss_cons (ps_set (i:=1) sc_21.nd rfl (Or.inl rfl) (pe_lst pa_nil)) (pss_cons (ps_if (pt_cmpR op_gt (pe_ix ix_tup (pv 0) pe_int (fun _ _=>rfl)) pe_int (nomark _)) (pss_one (ps_expr (pe_bm PySem.F.plainAttrs_list PySem.F.slot_list_extend PySem.F.type_list_extend mt_extend (pv 1) (pa_cons (pe_call (ok_51 T) (rm hr) rfl T.m_51 T.u_51.kp (b_51 T) .nil passN (pa_cons (pe_ix ix_tup (pv 0) pe_int (fun _ _=>rfl)) (pa_cons (g_151 T) pa_nil))) pa_nil)))) pss_nil) (pss_cons (ps_expr (pe_bm PySem.F.plainAttrs_list PySem.F.slot_list_append PySem.F.type_list_append mt_append (pv 1) (pa_cons (pe_ix ix_tup (g_159 T) (pe_ix ix_tup (pv 0) pe_int (fun _ _=>rfl)) (fun _ _=>rfl)) pa_nil))) (pss_one (ps_ret (pv 1)))))),?_⟩
  have i0:atI (sgV ⟨sn,tm⟩) 0=some (.int (tm:Int)):=atI_nat (j:=0) rfl
  have i1:atI (sgV ⟨sn,tm⟩) 1=some (.int (sn:Int)):=atI_nat (j:=1) rfl
  walk_at "go0"
  refine ⟨Nat.zero_le _,fun x hx=>?_⟩
  have nw:=R.new_of (o:= .lst []) hx
  generalize upd H x (.lst [])=H1 at nw⊢
  obtain ⟨n1,h1,sm⟩:=nw
  have seqT:∀{H':Hp},Same H H'->SqT K H' p (sgV ⟨sn,tm⟩):=fun s=>by
   rcases hp with (h|⟨o,h⟩)|h
   ·exact .inl (.inl (s _ _ h))
   ·exact .inl (.inr ⟨o,s _ _ h⟩)
   ·exact .inr h
  have fin:∀(H2:Hp) (l:List Nat),Same H H2->H2 x=some (.lst (txV l))->l.length<=8->l=(if tm=1 then [] else Quire.decimal tm)->
    tSeq (tDrop (tBM K "list" rAppend (tVar 1) (tCons (tOp (rIxT K) (tC (.ref a.t_159)) (tOp (rIxT K) (tVar 0) (tC (.int 1)))) tNil))) (tRet (tVar 1)) {nx:=fun x H'=>Q V.non H',rt:=Q} [some (.ref p),some (.ref x)] H2:=by
   intro H2 l s2 h2 hl el
   walk_at "go"
   refine ⟨.inl ⟨rfl,_,SqL.of h2⟩,?_⟩
   walk_at "go"
   refine R.ixt (seqT s2) i1 ?_
   have hc:Quire.signChars[sn]? =some (Quire.signChars.getD sn 0):=by
    rw [List.getD_eq_getElem?_getD,List.getElem?_eq_getElem (by show sn < 50;exact o1)]
    rfl
   refine R.ixt (Tab.signs.seq T _) (atI_nat (txV_at hc)) ?_
   walk_at "go"
   refine ⟨x,_,_,rfl,rfl,h2,small1000 (by rw [txV_len];omega),?_⟩
   walk_at "go"
   refine k x _ n1 ?_ (same_upd s2 n1)
   rw [upd_same]
   unfold Quire.Sig.text
   rw [txV_app,←el]
   rfl
  walk_at "go"
  refine R.ixt (seqT sm) i0 ?_
  walk_at "go"
  refine R.dif (fun h=>?_) (fun h=>?_)
  ·walk_at "go"
   refine ⟨.inl ⟨rfl,_,SqL.of h1⟩,?_⟩
   walk_at "go"
   refine R.ixt (seqT sm) i0 ?_
   walk_at "go"
   refine ⟨_,_,tm,rfl,.dig,by decide,by omega,fun b H2 hb hb2 sm2=>?_⟩
   walk_at "go"
   refine ⟨x,b,_,_,rfl,rfl,sm2 _ _ h1,hb2,?_,?_⟩
   ·show 0+_<=_
    rw [Nat.zero_add,txV_len]
    exact Nat.le_of_lt (small1000 (Nat.le_trans (numT_len (by omega)) (by decide)))
   ·refine fin _ (numT QM.DIG tm) (same_upd (sm.trans sm2) n1) upd_same (numT_len (by omega)) ?_
    rw [if_neg (by omega),dec_num]
  ·exact fin H1 [] sm h1 (by decide) (by rw [if_pos (by omega)])
end
end Q
namespace QM
open Quire
def Eats {α:Type} (p:Nat) (l:Text) (r:Rd α):Prop:=match r with
 | .error _=>True
 | .ok (_,q,u)=>∃k,k<=l.length/\q=p+k/\u=l.drop k
theorem eats_loop (d:Nat->Option Nat):∀(l:Text) (len n p:Nat),Eats p l (rdLoop d len n p l)
 | [],len,n,p=>⟨0,Nat.le_refl _,rfl,rfl⟩
 |c::r,len,n,p=>by
  unfold rdLoop
  cases hd:d c with
  |none=>exact ⟨0,Nat.zero_le _,rfl,rfl⟩
  |some x=>
   dsimp only
   split
   ·exact trivial
   ·have ih:=eats_loop d r (len+1) (10*n+x) (p+1)
    cases q:rdLoop d (len+1) (10*n+x) (p+1) r with
    |error e=>exact trivial
    |ok y=>
     obtain ⟨v,q',u⟩:=y
     rw [q] at ih
     obtain ⟨k,h1,h2,h3⟩:=ih
     exact ⟨k+1,by simp;omega,by omega,h3⟩
theorem eats_number (d:Nat->Option Nat) (p:Nat) (l:Text):Eats p l (number d p l):=by
 cases l with
 |nil=>exact trivial
 |cons c r=>
  cases hd:d c with
  |none=>
   have e:number d p (c::r)= .error p:=by simp only [number,hd]
   rw [e]
   exact trivial
  |some x=>
   rw [number_loop d p c r x hd]
   exact eats_loop d _ _ _ _
theorem Eats.ok {α:Type} {p:Nat} {l:Text} {r:Rd α} (h:Eats p l r) {v:α} {q:Nat} {u:Text} (e:r= .ok (v,q,u)):∃k,k<=l.length/\q=p+k/\u=l.drop k:=by
 subst e
 exact h
theorem Eats.more {α β:Type} {p q:Nat} {l u:Text} {k:Nat} (h1:k<=l.length) (h2:q=p+k) (h3:u=l.drop k) {r:Rd β} (h:Eats q u r):Eats p l r:=by
 cases r with
 |error e=>exact trivial
 |ok y=>
  obtain ⟨v,q',u'⟩:=y
  obtain ⟨j,j1,j2,j3⟩:=h
  subst h2 h3
  refine ⟨k+j,?_,by omega,by rw [j3,List.drop_drop]⟩
  rw [List.length_drop] at j1
  omega
theorem digit_eq:digit=fun c=>DIG.idxOf? c:=funext digit_idx
theorem rdigit_eq:raisedDigit=fun c=>RDIG.idxOf? c:=funext rdigit_idx
def toldB (l:Text):Bool:=match l with
 |c::_=>(digit c).isSome
 | []=>false
def timesAt (p:Nat) (l:Text):Rd Nat:=if toldB l=true then number digit p l else .ok (1,p,l)
theorem sig_eq (p:Nat) (l:Text):sigAt p l=match timesAt p l with
 | .error e=> .error e
 | .ok (n,q,r)=>match r with
  | []=> .error q
  |c::u=>match signAt c with
   |none=> .error q
   |some s=>if toldB l=true/\(n < 2∨TIMES < n) then .error p else .ok (⟨s,n⟩,q+1,u):=by
 cases l<;>rfl
theorem eats_times (p:Nat) (l:Text):Eats p l (timesAt p l):=by
 unfold timesAt
 split
 ·exact eats_number digit p l
 ·exact ⟨0,Nat.zero_le _,rfl,rfl⟩
theorem eats_sig (p:Nat) (l:Text):Eats p l (sigAt p l):=by
 rw [sig_eq]
 have h1:=eats_times p l
 cases hr:timesAt p l with
 |error e=>exact trivial
 |ok y=>
  obtain ⟨n,q,u⟩:=y
  rw [hr] at h1
  obtain ⟨k,k1,k2,k3⟩:=h1
  dsimp only
  cases u with
  |nil=>exact trivial
  |cons c v=>
   dsimp only
   cases signAt c with
   |none=>exact trivial
   |some s=>
    dsimp only
    split
    ·exact trivial
    ·refine ⟨k+1,?_,by omega,?_⟩
     ·have:=congrArg List.length k3
      rw [List.length_drop,List.length_cons] at this
      omega
     ·rw [←List.drop_drop,←k3]
      rfl
theorem eats_char (x p:Nat) (l:Text):Eats p l (charAt x p l):=by
 cases l with
 |nil=>exact trivial
 |cons c r=>
  show Eats p (c::r) (if c=x then _ else _)
  by_cases h:c=x
  ·rw [if_pos h];exact ⟨1,by simp,rfl,rfl⟩
  ·rw [if_neg h];exact trivial
theorem eats_signs:∀(l:Text) (p:Nat),Eats p l (signsAt p l)
 | [],p=>trivial
 |c::r,p=>by
  unfold signsAt
  split
  ·exact ⟨1,by simp,rfl,rfl⟩
  ·cases signs.find? fun s=>s.byte.toNat==c with
   |none=>exact trivial
   |some s=>
    dsimp only
    have ih:=eats_signs r (p+1)
    cases q:signsAt (p+1) r with
    |error e=>exact trivial
    |ok y=>
     obtain ⟨v,q',u⟩:=y
     rw [q] at ih
     obtain ⟨k,h1,h2,h3⟩:=ih
     exact ⟨k+1,by simp;omega,by omega,h3⟩
end QM
namespace Q
open PySem PySem.Spec PyProof.Rows L2 XL
open Quire (Sign Word Sig Gath Fate)
open QuireCopies (Line)
open Quire (Sign Word Sig)
theorem rest_drop (t:List Nat) (p e k:Nat):(rest t p e).drop k=rest t (p+k) e:=by
 unfold rest
 rw [List.drop_drop]
theorem rest_len {t:List Nat} {p e:Nat} (he:e<=t.length):(rest t p e).length=e - p:=by
 unfold rest
 rw [List.length_drop,List.length_take]
 omega
theorem eats_rest {α:Type} {t:List Nat} {p e:Nat} {r:Quire.Rd α} {v:α} {q:Nat} {u:List Nat} (he:e<=t.length) (h:QM.Eats p (rest t p e) r) (hr:r= .ok (v,q,u)):u=rest t q e/\p<=q/\(p<=e->q<=e):=by
 obtain ⟨k,h1,h2,h3⟩:=h.ok hr
 rw [rest_len he] at h1
 refine ⟨?_,by omega,by omega⟩
 rw [h3,rest_drop,h2]
theorem told_now {t:List Nat} {p e:Nat} (he:e<=t.length):QM.toldB (rest t p e)=((nowC t p e).bind fun n=>QM.DIG.idxOf? n).isSome:=by
 cases h:nowC t p e with
 |none=>rw [rest_none he h];rfl
 |some n=>
  rw [rest_now h]
  show (Quire.digit n).isSome=_
  rw [QM.digit_idx]
  rfl
section
variable {P:Program} {w:World} {K:W.Frag} {mg:Str->Option Value} {base:Heap} {a:Adr}
def spSigR (a:Adr) (K:W.Frag):Sp:=fun vs H Q E=>∃c ch,∃p e:Nat,∃t,vs= [.ref c]/\CurAt a H c ch p e/\SqL K H ch (txV t)/\e<=t.length/\
 Does a c ch e H E (Quire.sigAt p (rest t p e)) fun sg _ H'=>∀tp,H' tp=some (.tup (sgV sg))->Q (.ref tp) H'
theorem ok_19 (T:Txt K mg a):FnOk P w K mg base (CXd P w) 4 a.f_19 a.d_19 ["cursor"] (spSigR a K):=by
 refine okX T.u_19 sc_19 (fun vs H Q E h=>?_) (fun cdv A outer s H vs Q E hr h=>?_)
 ·obtain ⟨_,_,_,_,_,rfl,_⟩:=h;rfl
 ·obtain ⟨c,ch,p,e,t,rfl,⟨dx,hc⟩,hs,he,k⟩:=h
  refine ⟨_,(pss_cons (ps_set (i:=1) sc_19.nd rfl (Or.inl rfl) (pe_fld (pv 0) rfl)) (pss_cons (ps_set (i:=2) sc_19.nd rfl (Or.inl rfl) pe_int) (pss_cons (ps_set (i:=3) sc_19.nd rfl (Or.inl rfl) (pe_cmpR op_in_seq (pe_meth0 (pv 0) T.cl_150 T.me_42 (ok_42 T) (rm hr) (b_42 T) .nil passN) (g_151 T) (by with_unfolding_all rfl))) (pss_cons (ps_if (pt_truth (pv 3) (fun _=>rfl)) (pss_one (ps_set (i:=2) sc_19.nd rfl (Or.inl rfl) (pe_call (ok_54 T) (rm hr) rfl T.m_54 T.u_54.kp (b_54 T) .nil passD (pa_cons (pv 0) (pa_cons (g_151 T) pa_nil))))) pss_nil) (pss_cons (ps_if (pt_cmpR op_notIn_seq (pe_meth0 (pv 0) T.cl_150 T.me_42 (ok_42 T) (rm hr) (b_42 T) .nil passN) (g_159 T) (by with_unfolding_all rfl)) (pss_one (ps_raise T.xc_76 (ok_15 T) (rm hr) rfl T.m_76 (b_15 T) passD (pa_cons (pe_fld (pv 0) rfl) pa_nil))) pss_nil) (pss_cons (ps_set (i:=4) sc_19.nd rfl (Or.inl rfl) (pe_bm PySem.F.plainAttrs_tuple PySem.F.slot_tuple_index PySem.F.type_tuple_index mt_tindex (g_159 T) (pa_cons (pe_meth0 (pv 0) T.cl_150 T.me_42 (ok_42 T) (rm hr) (b_42 T) .nil passN) pa_nil))) (pss_cons (ps_expr (pe_meth0 (pv 0) T.cl_150 T.me_43 (ok_43 T) (rm hr) (b_43 T) .nil passN)) (pss_cons (ps_if (PW.pt (pw_and (pt_truth (pv 3) (fun _=>rfl)) (pw_and1 (pt_not (pt_chain op_le op_le pe_int (pv 2) (g_59 T) rfl))))) (pss_one (ps_raise T.xc_76 (ok_15 T) (rm hr) rfl T.m_76 (b_15 T) passD (pa_cons (pv 1) pa_nil))) pss_nil) (pss_one (ps_ret (pe_tup (pa_cons (pv 2) (pa_cons (pv 4) pa_nil))))))))))))),?_⟩
  rw [QM.sig_eq,told_now he] at k
  walk_at "go0"
  refine R.inT T .dig ?_
  generalize hb:((nowC t p e).bind fun n=>QM.DIG.idxOf? n).isSome=b at k⊢
  have et:QM.timesAt p (rest t p e)=if b=true then Quire.number (fun n=>QM.DIG.idxOf? n) p (rest t p e) else .ok (1,p,rest t p e):=by
   unfold QM.timesAt
   rw [told_now he,hb,QM.digit_eq]
  have eat:=QM.eats_times p (rest t p e)
  refine R.name ?_
  dsimp only
  refine R.cut (fun σ' H1=>∃(n q:Nat) (u:List Nat),σ'= [some (.ref c),some (.int (p:Int)),some (.int (n:Int)),some (.bl b),none]/\QM.timesAt p (rest t p e)= .ok (n,q,u)/\CurAt a H1 c ch q e/\Fr c H H1) ?_ (fun N hN=>?_)
  ·rintro σ' H1 ⟨n,q,u,rfl,ht,⟨dx1,hc1⟩,fr⟩
   obtain ⟨rfl,pq,_⟩:=eats_rest he eat ht
   rw [ht] at k
   dsimp only at k
   have hs1:=fr.seqC ⟨dx,hc⟩ hs
   clear hc hs eat et
   walk_at "go"
   refine R.notInT T .signs (R.bl (R.bbnif (fun h=>?_) (fun h=>?_)))<;>walk_at "go"
   ·have k2:Rz a E q:=by
     rcases in_none h with h|⟨m,h,h2⟩
     ·rw [rest_none he h] at k
      exact k
     ·rw [rest_now h] at k
      have h3:Quire.signAt m=none:=h2
      dsimp only at k
      rw [h3] at k
      exact k
    exact ⟨_,rfl,fun dx2 hd=>k2 _ _ upd_same⟩
   ·obtain ⟨m,hm,x,hx⟩:=in_some h
    rw [rest_now hm] at k
    have h3:Quire.signAt m=some x:=hx
    dsimp only at k
    rw [h3] at k
    dsimp only at k
    refine ⟨Tab.signs.ty T _,?_⟩
    walk_at "go"
    refine R.tix T .signs hm hx ?_
    walk_at "go"
    refine ⟨c,ch,q,e,rfl,⟨dx1,hc1⟩,fun H2 hc2 fr2=>?_⟩
    walk_at "go"
    refine R.evand (b1:=b) (b2:= !decide ((2:Int)<=(n:Int)/\(n:Int)<=99)) ?_ (R.Evnot (R.Etest (R.Echain ?_ ?_ ?_))) (R.bbif (fun h=>?_) (fun h=>?_))
    ·walk_at "ev"
    ·walk_at "eve"
    ·walk_at "eve"
    ·walk_at "eve"
    ·walk_at "go"
     have h4:b=true/\(n < 2∨Quire.TIMES < n):=by
      rw [Bool.and_eq_true,Bool.not_eq_true',decide_eq_false_iff_not] at h
      refine ⟨h.1,?_⟩
      unfold Quire.TIMES
      omega
     rw [if_pos h4] at k
     exact ⟨_,rfl,fun dx2 hd=>k _ _ upd_same⟩
    ·walk_at "go"
     have h4:¬(b=true/\(n < 2∨Quire.TIMES < n)):=by
      rintro ⟨rfl,h5⟩
      rw [Bool.true_and,Bool.not_eq_false',decide_eq_true_eq] at h
      unfold Quire.TIMES at h5
      omega
     rw [if_neg h4] at k
     refine ⟨(by show 2<=sizeLine;decide),fun tp htp=>?_⟩
     obtain ⟨dx2,hc2⟩:=hc2
     exact k _ ⟨dx2,by rw [upd_ne (ne_of_none hc2 htp)];exact hc2⟩ ((fr.trans fr2).trans (Fr.of_same (same_upd_new htp))) tp upd_same
  ·refine R.ifs ?_
   walk_at "go"
   refine R.bbif (fun h=>?_) (fun h=>?_)<;>walk_at "go"
   ·subst h
    rw [if_pos rfl] at et
    refine ⟨c,ch,_,_,p,e,t,rfl,⟨dx,hc⟩,hs,he,.dig,?_⟩
    cases hr:Quire.number (fun n=>QM.DIG.idxOf? n) p (rest t p e) with
    |error x=>
     rw [et,hr] at k
     exact k
    |ok y=>
     obtain ⟨n,q,u⟩:=y
     intro H1 hc1 fr
     rw [hr] at et
     exact hN _ _ ⟨n,q,u,rfl,et,hc1,fr⟩
   ·subst h
    rw [if_neg Bool.false_ne_true] at et
    exact hN _ _ ⟨1,p,_,rfl,et,⟨dx,hc⟩,Fr.refl⟩
end
open Quire (Sign Word Sig)
abbrev PL:List Nat:= [124,40,41,91,93]
theorem find_sign (c:Nat):(∃s,(Quire.signs.find? fun s=>s.byte.toNat==c)=some s/\code s=(c:Int)/\(PL.idxOf? c).isSome=true)∨((Quire.signs.find? fun s=>s.byte.toNat==c)=none/\PL.idxOf? c=none):=by
 by_cases h1:c=124
 ·subst h1;exact .inl ⟨.alone,rfl,rfl,rfl⟩
 by_cases h2:c=40
 ·subst h2;exact .inl ⟨.opens,rfl,rfl,rfl⟩
 by_cases h3:c=41
 ·subst h3;exact .inl ⟨.closes,rfl,rfl,rfl⟩
 by_cases h4:c=91
 ·subst h4;exact .inl ⟨.stubOpens,rfl,rfl,rfl⟩
 by_cases h5:c=93
 ·subst h5;exact .inl ⟨.stubCloses,rfl,rfl,rfl⟩
 refine .inr ⟨?_,?_⟩
 ·rw [List.find?_eq_none]
  intro s hs
  cases s<;>simp [Quire.Sign.byte]<;>omega
 ·simp only [PL,QM.idx_cons,QM.idx_nil,if_neg (Ne.symm h1),if_neg (Ne.symm h2),if_neg (Ne.symm h3),if_neg (Ne.symm h4),if_neg (Ne.symm h5),Option.map_none]
def preW (w:Word) (r:Quire.Rd Word):Quire.Rd Word:=match r with
 | .error x=> .error x
 | .ok (v,q,u)=> .ok (w++v,q,u)
theorem preW_nil (r:Quire.Rd Word):preW [] r=r:=by
 cases r with
 |error x=>rfl
 |ok y=>rfl
def goodW (w:Word):Bool:= !w.isEmpty&&(!Quire.counted w&&Quire.right w)
section
variable {P:Program} {w:World} {K:W.Frag} {mg:Str->Option Value} {base:Heap} {a:Adr}
def outW (Q:VK) (w:Option Word) (H':Hp):Prop:=match w with
 |none=>Q .non H'
 |some w=>∀l,H' l=some (.lst (wdV w))->Q (.ref l) H'
def spPIS (a:Adr) (K:W.Frag):Sp:=fun vs H Q E=>∃c ch,∃p e:Nat,∃t,vs= [.ref c]/\CurAt a H c ch p e/\SqL K H ch (txV t)/\e<=t.length/\t.length<=30000/\nowC t p e=some Quire.LANGLE/\
 Does a c ch e H E (Quire.signsAt (p+1) (rest t (p+1) e)) fun wd _ H'=>outW Q (if goodW wd=true then some wd else none) H'
theorem ok_2 (T:Txt K mg a):FnOk P w K mg base (CXd P w) 4 a.f_2 a.d_2 ["cursor"] (spPIS a K):=by
 refine okX T.u_2 sc_2 (fun vs H Q E h=>?_) (fun cdv A outer s H vs Q E hr h=>?_)
 ·obtain ⟨_,_,_,_,_,rfl,_⟩:=h;rfl
 ·obtain ⟨c,ch,p,e,t,rfl,⟨dx,hc⟩,hs,he,htl,hnow,k⟩:=h
  refine ⟨_,(pss_cons (ps_expr (pe_meth (pv 0) T.cl_150 T.me_44 (ok_44 T) (rm hr) (b_44 T) .nil passD (pa_cons (g_57 T) pa_nil))) (pss_cons (ps_set (i:=1) sc_2.nd rfl (Or.inl rfl) (pe_lst pa_nil)) (pss_cons (ps_while passOwnD (pt_cmpR op_in_seq (pe_meth0 (pv 0) T.cl_150 T.me_42 (ok_42 T) (rm hr) (b_42 T) .nil passN) (g_48 T) (by with_unfolding_all rfl)) (pss_cons (ps_expr (pe_bm PySem.F.plainAttrs_list PySem.F.slot_list_append PySem.F.type_list_append mt_append (pv 1) (pa_cons (pe_meth0 (pv 0) T.cl_150 T.me_42 (ok_42 T) (rm hr) (b_42 T) .nil passN) pa_nil))) (pss_one (ps_expr (pe_meth0 (pv 0) T.cl_150 T.me_43 (ok_43 T) (rm hr) (b_43 T) .nil passN))))) (pss_cons (ps_expr (pe_meth (pv 0) T.cl_150 T.me_44 (ok_44 T) (rm hr) (b_44 T) .nil passD (pa_cons (g_40 T) pa_nil))) (pss_cons (ps_if (PW.pt (pw_or (pt_not (pt_truth (pv 1) (fun _=>rfl))) (pw_or (pt_truth (pe_call (ok_62 T) (rm hr) rfl T.m_62 T.u_62.kp (b_62 T) .nil passN (pa_cons (pv 1) pa_nil)) (fun _=>rfl)) (pw_or1 (pt_not (pt_truth (pe_call (ok_37 T) (rm hr) rfl T.m_37 T.u_37.kp (b_37 T) .nil passN (pa_cons (pv 1) pa_nil)) (fun _=>rfl))))))) (pss_one (ps_ret pe_non)) pss_nil) (pss_one (ps_ret (pv 1)))))))),?_⟩
  walk_at "go0"
  refine ⟨c,ch,p,e,t,Quire.LANGLE,rfl,⟨dx,hc⟩,hs,he,?_⟩
  rw [charAt_now hnow]
  rintro H1 ⟨dx1,hc1⟩ fr1
  have hs1:=fr1.seqC ⟨dx,hc⟩ hs
  walk_at "go"
  refine ⟨Nat.zero_le _,fun l hl=>?_⟩
  have nw:=R.new_of (o:= .lst []) hl
  generalize upd H1 l (.lst [])=H2 at nw⊢
  obtain ⟨n1,h1,sm⟩:=nw
  have nlc:l≠c:=fun z=>by subst z;rw [n1] at hc1;cases hc1
  have hn0:H l=none:=by
   cases q:H l with
   |none=>rfl
   |some o=>rw [fr1 l o q nlc] at n1;cases n1
  walk_at "go"
  refine ⟨fun z σ' H'=>∃(wd:Word) (y:Nat),z=e - y/\σ'= [some (.ref c),some (.ref l)]/\CurAt a H' c ch y e/\Fr c H H'/\H' l=some (.lst (wdV wd))/\wd.length+p+1<=y/\y<=e/\
    Does a c ch e H E (preW wd (Quire.signsAt y (rest t y e))) fun wd _ H'=>outW Q (if goodW wd=true then some wd else none) H',⟨_,[],p+1,rfl,rfl,⟨dx1,sm _ _ hc1⟩,fr1.trans (Fr.of_same sm),h1,by simp,now_lt hnow,by rw [preW_nil];exact k⟩,?_⟩
  clear k
  rintro z σ' H' ⟨wd,y,rfl,rfl,⟨dx',hc'⟩,fr,hl',hle,hye,k⟩
  have hs':SqL K H' ch (txV t):=fr.seqC ⟨dx,hc⟩ hs
  walk_at "go"
  refine R.inT T .place (R.bl (R.bbif (fun h=>?_) (fun h=>?_)))
  ·obtain ⟨m,q,x,q2⟩:=in_some h
   have lt:=now_lt q
   refine ⟨_,fun _ _ h=>h,?_⟩
   walk_at "go"
   refine ⟨.inl ⟨rfl,_,SqL.of hl'⟩,?_⟩
   walk_at "go"
   obtain ⟨sg,f1,f2,f3⟩|⟨f1,f2⟩:=find_sign m
   ·rw [q]
    refine ⟨l,_,_,rfl,rfl,hl',?_,?_⟩
    ·rw [wdV_len,sizeLine_eq]
     omega
    ·have hc2:(upd H' l (.lst (wdV wd++ [chV (some m)]))) c=some (.ins a.c_150 dx' (curF ch y e)):=by rw [upd_ne (Ne.symm nlc)];exact hc'
     walk_at "go"
     refine ⟨c,ch,y,e,rfl,⟨dx',hc2⟩,fun H3 hc3 fr3=>?_⟩
     refine ⟨e - (y+1),by omega,wd++ [sg],y+1,rfl,rfl,hc3,?_,?_,by rw [List.length_append];simp;omega,by omega,?_⟩
     ·intro b o hb nb
      refine fr3 b o ?_ nb
      rw [upd_ne (fun z=>by rw [z,hn0] at hb;cases hb)]
      exact fr b o hb nb
     ·refine fr3 l _ ?_ nlc
      rw [upd_same]
      unfold wdV
      rw [List.map_append]
      show some (HO.lst (_++ [V.int (m:Int)]))=some (HO.lst (_++ [V.int (code sg)]))
      rw [f2]
     ·have e1:preW wd (Quire.signsAt y (rest t y e))=preW (wd++ [sg]) (Quire.signsAt (y+1) (rest t (y+1) e)):=by
       rw [rest_now q]
       have nr:¬m=Quire.RANGLE:=fun z=>by subst z;exact absurd f3 (by decide)
       have e2:Quire.signsAt y (m::rest t (y+1) e)=match Quire.signsAt (y+1) (rest t (y+1) e) with
         | .error e=> .error e
         | .ok (w,q,u)=> .ok (sg::w,q,u):=by
        rw [Quire.signsAt,if_neg nr,f1]
        cases Quire.signsAt (y+1) (rest t (y+1) e)<;>rfl
       rw [e2]
       cases Quire.signsAt (y+1) (rest t (y+1) e) with
       |error x=>rfl
       |ok z=>
        obtain ⟨v,q',u⟩:=z
        show Except.ok (wd++sg::v,q',u)=Except.ok ((wd++ [sg])++v,q',u)
        rw [List.append_assoc]
        rfl
      rw [←e1]
      exact k
   ·rw [f2] at q2;cases q2
  ·walk_at "go"
   refine ⟨c,ch,y,e,t,Quire.RANGLE,rfl,⟨dx',hc'⟩,hs',he,?_⟩
   by_cases hr2:nowC t y e=some Quire.RANGLE
   ·rw [charAt_now hr2]
    rintro H3 ⟨dx3,hc3⟩ fr3
    have e1:preW wd (Quire.signsAt y (rest t y e))= .ok (wd,y+1,rest t (y+1) e):=by
     rw [rest_now hr2,Quire.signsAt,if_pos rfl]
     show Except.ok (wd++ [],_,_)=_
     rw [List.append_nil]
    rw [e1] at k
    have hl3:=fr3 _ _ hl' nlc
    have wl:wd.length<=1000000:=by omega
    walk_at "go"
    refine R.es (b:=wd.isEmpty||(Quire.counted wd|| !Quire.right wd)) (R.Esor (R.Ev.es ?_) fun _ H4 sm4=>R.Esor ?_ fun _ H5 sm5=>R.Esnot ?_) fun H4 sm4=>?_
    ·intro Qb q
     walk_at "go"
     refine R.truL (SqL.of hl3) ?_
     have e5:(!(!(wdV wd).isEmpty))=wd.isEmpty:=by cases wd<;>rfl
     show Qb (!(!(wdV wd).isEmpty)) H3
     rw [e5]
     exact q
    ·intro Qb q
     walk_at "go"
     exact ⟨l,wd,rfl,SqL.of (sm4 _ _ hl3),wl,fun H' s=>R.truB (q H' s)⟩
    ·intro Qb q
     walk_at "go"
     exact ⟨l,wd,rfl,SqL.of (sm5 _ _ (sm4 _ _ hl3)),wl,fun H' s=>R.truB (q H' s)⟩
    ·have k2:=k H4 ⟨dx3,sm4 _ _ hc3⟩ ((fr.trans fr3).trans (Fr.of_same sm4))
     unfold goodW at k2
     dsimp only at k2
     refine R.bbif (fun h=>?_) (fun h=>?_)<;>walk_at "go"
     ·have e5:(!wd.isEmpty&&(!Quire.counted wd&&Quire.right wd))=false:=by
       cases h1:wd.isEmpty<;>cases h2:Quire.counted wd<;>cases h3:Quire.right wd<;>simp_all
      rw [e5,if_neg Bool.false_ne_true] at k2
      exact k2
     ·have e5:(!wd.isEmpty&&(!Quire.counted wd&&Quire.right wd))=true:=by
       cases h1:wd.isEmpty<;>cases h2:Quire.counted wd<;>cases h3:Quire.right wd<;>simp_all
      rw [e5,if_pos rfl] at k2
      exact k2 l (sm4 _ _ hl3)
   ·rw [charAt_not he hr2]
    have e1:preW wd (Quire.signsAt y (rest t y e))= .error y:=by
     rcases in_none h with q|⟨m,q,q2⟩
     ·rw [rest_none he q];rfl
     ·rw [rest_now q]
      have nr:¬m=Quire.RANGLE:=fun z=>hr2 (by rw [q,z])
      obtain ⟨sg,f1,f2,f3⟩|⟨f1,f2⟩:=find_sign m
      ·rw [q2] at f3;cases f3
      ·rw [Quire.signsAt,if_neg nr,f1]
       rfl
    rw [e1] at k
    exact k
def putIn (p:Nat) (l:List Nat):Quire.Rd (Option Word):=match l with
 | []=> .error p
 |x::v=>if x=Quire.LANGLE then (match Quire.signsAt (p+1) v with
   | .error e=> .error e
   | .ok (w,q,u)=> .ok (if goodW w=true then some w else none,q,u))
  else match Quire.number Quire.digit p (x::v) with
   | .error e=> .error e
   | .ok (n,q,u)=> .ok (if n<=9 then some (List.replicate n .alone) else none,q,u)
def spPI (a:Adr) (K:W.Frag):Sp:=fun vs H Q E=>∃c ch,∃p e:Nat,∃t,vs= [.ref c]/\CurAt a H c ch p e/\SqL K H ch (txV t)/\e<=t.length/\t.length<=30000/\
 Does a c ch e H E (putIn p (rest t p e)) fun wd _ H'=>outW Q wd H'
theorem ok_55 (T:Txt K mg a):FnOk P w K mg base (CXd P w) 5 a.f_55 a.d_55 ["cursor"] (spPI a K):=by
 refine okX T.u_55 sc_55 (fun vs H Q E h=>?_) (fun cdv A outer s H vs Q E hr h=>?_)
 ·obtain ⟨_,_,_,_,_,rfl,_⟩:=h;rfl
 ·obtain ⟨c,ch,p,e,t,rfl,⟨dx,hc⟩,hs,he,htl,k⟩:=h
  refine ⟨_,(pss_cons (ps_if (pt_cmpR op_eq (pe_meth0 (pv 0) T.cl_150 T.me_42 (ok_42 T) (rm hr) (b_42 T) .nil passN) (g_57 T) (nomark _)) (pss_one (ps_ret (pe_call (ok_2 T) (rm hr) rfl T.m_2 T.u_2.kp (b_2 T) .nil passD (pa_cons (pv 0) pa_nil)))) pss_nil) (pss_cons (ps_set (i:=1) sc_55.nd rfl (Or.inl rfl) (pe_call (ok_54 T) (rm hr) rfl T.m_54 T.u_54.kp (b_54 T) .nil passD (pa_cons (pv 0) (pa_cons (g_151 T) pa_nil)))) (pss_cons (ps_if (pt_cmpR op_gt (pv 1) (g_35 T) (nomark _)) (pss_one (ps_ret pe_non)) pss_nil) (pss_one (ps_ret (pe_op op_rep (pe_lst (pa_cons (g_153 T) pa_nil)) (pv 1))))))),?_⟩
  walk_at "go0"
  refine R.eq_ scal_ch (R.bl (R.dif (fun h=>?_) (fun h=>?_)))<;>walk_at "go"
  ·have hnow:nowC t p e=some Quire.LANGLE:=(chV_eq (n:=Quire.LANGLE)).mp h
   refine ⟨c,ch,p,e,t,rfl,⟨dx,hc⟩,hs,he,htl,hnow,?_⟩
   rw [rest_now hnow] at k
   unfold putIn at k
   dsimp only at k
   rw [if_pos rfl] at k
   cases hr2:Quire.signsAt (p+1) (rest t (p+1) e) with
   |error x=>rw [hr2] at k;exact k
   |ok y=>rw [hr2] at k;exact k
  ·have hnow:¬nowC t p e=some Quire.LANGLE:=fun z=>h ((chV_eq (n:=Quire.LANGLE)).mpr z)
   refine ⟨c,ch,_,_,p,e,t,rfl,⟨dx,hc⟩,hs,he,.dig,?_⟩
   have e1:putIn p (rest t p e)=match Quire.number (fun n=>QM.DIG.idxOf? n) p (rest t p e) with
     | .error e=> .error e
     | .ok (n,q,u)=> .ok (if n<=9 then some (List.replicate n .alone) else none,q,u):=by
    cases q:nowC t p e with
    |none=>rw [rest_none he q];rfl
    |some m=>
     rw [rest_now q]
     unfold putIn
     dsimp only
     rw [if_neg (fun z=>hnow (by rw [q,z])),QM.digit_eq]
   rw [e1] at k
   cases hr2:Quire.number (fun n=>QM.DIG.idxOf? n) p (rest t p e) with
   |error x=>rw [hr2] at k;exact k
   |ok y=>
    obtain ⟨n,q,u⟩:=y
    rw [hr2] at k
    intro H1 hc1 fr1
    have k1:=k H1 hc1 fr1
    walk_at "go"
    refine R.dif (fun h2=>?_) (fun h2=>?_)<;>walk_at "go"
    ·rw [if_neg (by omega)] at k1
     exact k1
    ·have n9:n<=9:=by omega
     refine ⟨by decide,fun p1 hp1=>?_⟩
     walk_at "go"
     obtain ⟨dx1,hc1⟩:=hc1
     have s1:=same_upd_new (o:= .lst [.int 124]) hp1
     refine ⟨p1,n,_,rfl,rfl,upd_same,by omega,by omega,?_,fun p2 hp2=>?_⟩
     ·show 1*(n:Int).toNat<=_
      rw [sizeLine_eq]
      omega
     ·have s2:=s1.trans (same_upd_new (o:= .lst (List.replicate (n:Int).toNat [V.int 124]).flatten) hp2)
      have k2:=k _ ⟨dx1,s2 _ _ hc1⟩ (fr1.trans (Fr.of_same s2))
      dsimp only at k2
      rw [if_pos n9] at k2
      refine k2 p2 ?_
      rw [upd_same,Int.toNat_natCast]
      have e5:∀n:Nat,(List.replicate n [V.int 124]).flatten=wdV (List.replicate n Sign.alone):=by
       intro n
       induction n with
       |zero=>rfl
       |succ n ih=>
        rw [List.replicate_succ,List.flatten_cons,ih,List.replicate_succ]
        rfl
      rw [e5]
theorem dVi (i j:Int):decide (V.int i=V.int j)=decide (i=j):=by simp only [V.int.injEq]
def spSz:Sp:=fun vs H Q _=>∃n:Nat,vs= [.int (n:Int)]/\Q (.bl (Quire.sizeOk n)) H
theorem ok_149 (T:Txt K mg a):FnOk P w K mg base (CXd P w) 1 a.f_149 a.d_149 ["number"] spSz:=by
 refine okN T.u_149 sc_149 (fun vs H Q E h=>?_) (fun cdv A outer s H vs Q E hr h=>?_)
 ·obtain ⟨_,rfl,_⟩:=h;rfl
 ·obtain ⟨n,rfl,k⟩:=h
  refine ⟨_,(pss_one (ps_ret (pe_or (pe_cmpR op_eq (pv 0) pe_int (nomark _)) (pe_one (pe_and (pe_cmpR op_eq (pe_op op_mod (pv 0) pe_int) pe_int (nomark _)) (pe_one (pe_chain op_le op_le pe_int (pv 0) (g_73 T) rfl))))))),?_⟩
  have e:Quire.sizeOk n=(decide (V.int (n:Int)= .int 1)||(decide (V.int ((n:Int) % 2)= .int 0)&&decide ((2:Int)<=(n:Int)/\(n:Int)<=20))):=by
   unfold Quire.sizeOk
   have e1:(n==1)=decide (V.int (n:Int)= .int 1):=by
    rw [dVi]
    by_cases h:n=1
    ·subst h;rfl
    ·rw [decide_eq_false (by omega)];exact beq_eq_false_iff_ne.mpr h
   have e2:(n % 2==0)=decide (V.int ((n:Int) % 2)= .int 0):=by
    rw [dVi]
    by_cases h:n % 2=0
    ·rw [decide_eq_true (by omega)];exact beq_iff_eq.mpr h
    ·rw [decide_eq_false (by omega)];exact beq_eq_false_iff_ne.mpr h
   have e3:(decide (2<=n)&&decide (n<=20))=decide ((2:Int)<=(n:Int)/\(n:Int)<=20):=by
    by_cases h:2<=n/\n<=20
    ·rw [decide_eq_true h.1,decide_eq_true h.2,decide_eq_true (by omega)];rfl
    ·rw [decide_eq_false (p:=(2:Int)<=(n:Int)/\(n:Int)<=20) (by omega),Bool.and_eq_false_iff,decide_eq_false_iff_not,decide_eq_false_iff_not]
     omega
   rw [e1,e2,e3]
  rw [e] at k
  walk_at "go0"
  refine R.eor (b1:=decide (V.int (n:Int)= .int 1)) ?_ (fun _=>R.Eand (b1:=decide (V.int ((n:Int) % 2)= .int 0)) ?_ fun _=>R.Echain ?_ ?_ ?_) k
  ·walk_at "eve"
  ·intro Qv q
   walk_at "go"
   refine R.iC (by decide) ?_
   walk_at "go"
   exact q
  ·walk_at "eve"
  ·walk_at "eve"
  ·walk_at "eve"
def rkV (b:Option Nat):V:=match b with
 |none=> .non
 |some n=> .int (n:Int)
def inOrd (b:Option Nat) (n:Int):Bool:=match b with
 |none=>true
 |some m=>decide ((m:Int) < n)
def spIO:Sp:=fun vs H Q _=>∃(b:Option Nat) (n:Int),vs= [rkV b,.int n]/\Q (.bl (inOrd b n)) H
theorem ok_50 (T:Txt K mg a):FnOk P w K mg base (CXd P w) 1 a.f_50 a.d_50 ["before","rank"] spIO:=by
 refine okN T.u_50 sc_50 (fun vs H Q E h=>?_) (fun cdv A outer s H vs Q E hr h=>?_)
 ·obtain ⟨_,_,rfl,_⟩:=h;rfl
 ·obtain ⟨b,n,rfl,k⟩:=h
  refine ⟨_,(pss_one (ps_ret (pe_or (pe_cmpR op_isN (pv 0) pe_non (nomark _)) (pe_one (pe_cmpR op_lt (pv 0) (pv 1) (nomark _)))))),?_⟩
  walk_at "go0"
  cases b with
  |none=>
   refine R.eor (b1:=true) (b2:=true) ?_ (fun z=>nomatch z) k
   intro Qv q
   walk_at "go"
   exact ⟨rfl,q⟩
  |some m=>
   dsimp only [rkV]
   refine R.eor (b1:=false) (b2:=decide ((m:Int) < n)) ?_ (fun _=>?_) k
   ·intro Qv q
    walk_at "go"
    exact ⟨rfl,q⟩
   ·walk_at "eve"
def spRS (a:Adr) (K:W.Frag):Sp:=fun vs H Q E=>∃c ch,∃p e:Nat,∃t,vs= [.ref c]/\CurAt a H c ch p e/\SqL K H ch (txV t)/\e<=t.length/\
 Does a c ch e H E (match Quire.number Quire.raisedDigit p (rest t p e) with
  | .error x=> .error x
  | .ok (n,q,u)=>if Quire.sizeOk n=false then .error p else .ok (n,q,u)) fun n _ H'=>Q (.int (n:Nat)) H'
theorem ok_82 (T:Txt K mg a):FnOk P w K mg base (CXd P w) 4 a.f_82 a.d_82 ["cursor"] (spRS a K):=by
 refine okX T.u_82 sc_82 (fun vs H Q E h=>?_) (fun cdv A outer s H vs Q E hr h=>?_)
 ·obtain ⟨_,_,_,_,_,rfl,_⟩:=h;rfl
 ·obtain ⟨c,ch,p,e,t,rfl,⟨dx,hc⟩,hs,he,k⟩:=h
  refine ⟨_,(pss_cons (ps_set (i:=1) sc_82.nd rfl (Or.inl rfl) (pe_fld (pv 0) rfl)) (pss_cons (ps_set (i:=2) sc_82.nd rfl (Or.inl rfl) (pe_call (ok_54 T) (rm hr) rfl T.m_54 T.u_54.kp (b_54 T) .nil passD (pa_cons (pv 0) (pa_cons (g_27 T) pa_nil)))) (pss_cons (ps_if (pt_not (pt_truth (pe_call (ok_149 T) (rm hr) rfl T.m_149 T.u_149.kp (b_149 T) .nil passN (pa_cons (pv 2) pa_nil)) (fun _=>rfl))) (pss_one (ps_raise T.xc_76 (ok_15 T) (rm hr) rfl T.m_76 (b_15 T) passD (pa_cons (pv 1) pa_nil))) pss_nil) (pss_one (ps_ret (pv 2)))))),?_⟩
  walk_at "go0"
  refine ⟨c,ch,_,_,p,e,t,rfl,⟨dx,hc⟩,hs,he,.rdig,?_⟩
  rw [QM.rdigit_eq] at k
  cases hr2:Quire.number (fun n=>QM.RDIG.idxOf? n) p (rest t p e) with
  |error x=>rw [hr2] at k;exact k
  |ok y=>
   obtain ⟨n,q,u⟩:=y
   rw [hr2] at k
   dsimp only at k
   intro H1 hc1 fr1
   walk_at "go"
   refine ⟨n,rfl,?_⟩
   walk_at "go"
   refine R.bbnif (fun h=>?_) (fun h=>?_)<;>walk_at "go"
   ·rw [if_pos h] at k
    exact ⟨_,rfl,fun dx2 hd=>k _ _ upd_same⟩
   ·rw [if_neg (by rw [h];decide)] at k
    exact k H1 hc1 fr1
end
def ftV:Fate->V
 | .kept=> .int 0
 | .cut=> .int 1
 | .lost=> .int 2
def QAt (a:Adr) (H:Hp) (q sg lv gp:Addr) (g:Gath):Prop:=(∃dx,H q=some (.ins a.c_157 dx (quiF sg lv gp (g.size:Int))))/\H sg=some (.tup (sgV g.sig))/\H lv=some (.lst (g.fates.map ftV))/\
 ∃gs:List Addr,H gp=some (.lst (gs.map V.ref))/\Paired (fun w b=>H b=some (.lst (wdV w))) g.puts gs
def QIs (a:Adr) (H:Hp) (q:Addr) (g:Gath):Prop:=∃sg lv gp,QAt a H q sg lv gp g
theorem QIs.same {a:Adr} {H H':Hp} {q:Addr} {g:Gath} (s:Same H H') (h:QIs a H q g):QIs a H' q g:=by
 obtain ⟨sg,lv,gp,⟨dx,h1⟩,h2,h3,gs,h4,h5⟩:=h
 exact ⟨sg,lv,gp,⟨dx,s _ _ h1⟩,s _ _ h2,s _ _ h3,gs,s _ _ h4,R.paired_imp (fun _ _ h=>s _ _ h) h5⟩
structure WF (g:Gath):Prop where
 fl:g.fates.length=g.size
 pl:g.puts.length=g.size+1
 sz:Quire.sizeOk g.size=true
 wl:∀w∈g.puts,w.length<=21
theorem size_le {n:Nat} (h:Quire.sizeOk n=true):1<=n/\n<=20:=by
 unfold Quire.sizeOk at h
 simp only [Bool.or_eq_true,Bool.and_eq_true,beq_iff_eq,decide_eq_true_eq] at h
 omega
section
variable {P:Program} {w:World} {K:W.Frag} {mg:Str->Option Value} {base:Heap} {a:Adr}
def spQI (a:Adr):Sp:=fun vs H Q _=>∃(x dx sg:Addr) (n:Nat),vs= [.ref x,.ref sg,.int (n:Int)]/\H x=some (.ins a.c_157 dx [])/\H sg≠none/\n<=20/\
 ∀(H':Hp) (lv gp:Addr) (gs:List Addr),H' x=some (.ins a.c_157 dx (quiF sg lv gp (n:Int)))->H' lv=some (.lst ((List.replicate n Fate.kept).map ftV))->H' gp=some (.lst (gs.map V.ref))->Paired (fun w b=>H' b=some (.lst (wdV w))/\H b=none) (List.replicate (n+1) []) gs->
  H lv=none->H gp=none->(∀b o,H b=some o->b≠x->H' b=some o)->Q .non H'
theorem paired_rep {α β:Type} {F:α->β->Prop} {x:α}:∀{n:Nat} {l:List Nat} {ys:List β},Paired (fun _ y=>F x y) l ys->l.length=n->Paired F (List.replicate n x) ys
 |0,_,_,.nil,_=> .nil
 |n+1,_,_,.cons h t,e=> .cons h (paired_rep t (by simpa using e))
theorem paired_refs {F:Nat->Addr->Prop}:∀{l:List Nat} {ys:List V},Paired (fun i y=>∃b,y=V.ref b/\F i b) l ys->∃bs,ys=bs.map V.ref/\Paired F l bs
 |_,_,.nil=>⟨[],rfl,.nil⟩
 |_,_,.cons ⟨b,e,h⟩ t=>by
  obtain ⟨bs,e2,h2⟩:=paired_refs t
  exact ⟨b::bs,by rw [e,e2];rfl,.cons h h2⟩
theorem ok_60 (T:Txt K mg a):FnOk P w K mg base (CXd P w) 1 a.f_60 a.d_60 ["self","signature","size"] (spQI a):=by
 refine okN T.u_60 sc_60 (fun vs H Q E h=>?_) (fun cdv A outer s H vs Q E hr h=>?_)
 ·obtain ⟨_,_,_,_,rfl,_⟩:=h;rfl
 ·obtain ⟨x,dx,sg,n,rfl,hx,hsg,hn,k⟩:=h
  refine ⟨_,(pss_cons (ps_fld (pv 0) (pv 1) rfl) (pss_cons (ps_fld (pv 0) (pv 2) rfl) (pss_cons (ps_fld (pv 0) (pe_op op_rep (pe_lst (pa_cons (g_164 T) pa_nil)) (pv 2)) rfl) (pss_one (ps_fld (pv 0) (pe_lc rfl sc_60.nd (pi_range1 rfl T.b_range (pa_cons (pe_op op_add (pv 2) pe_int) pa_nil)) (blkOk_by (own:= [("gap",3)]) rfl) (fun _ _ _ _ _=>(pg_name (i:=3) sc_60.nd rfl (Or.inl rfl))) (fun _ _ _ _ _=>pts_nil) (fun _ _ _ _ _=>(pe_lst pa_nil))) rfl))))),?_⟩
  refine ⟨_,rfl,_,rfl,x,_,dx,_,rfl,hx,T.cl_157,T.no_Quire_signature,(show 0 < 1000 by decide),?_⟩
  refine ⟨_,rfl,_,rfl,x,_,dx,_,rfl,upd_same,T.cl_157,T.no_Quire_size,(show 1 < 1000 by decide),?_⟩
  rw [upd_upd]
  generalize hH1:upd H x _=H1
  have hx1:H1 x=some (.ins a.c_157 dx [("signature",.ref sg),("size",.int (n:Int))]):=by rw [←hH1,upd_same];rfl
  have o1:∀b o,H b=some o->b≠x->H1 b=some o:=fun b o e nb=>by rw [←hH1,upd_ne nb];exact e
  have nn:∀b,H1 b=none->H b=none:=fun b e=>by
   cases q:H b with
   |none=>rfl
   |some o=>
    by_cases nb:b=x
    ·subst nb;rw [hx1] at e;cases e
    ·rw [o1 b o q nb] at e;cases e
  clear hH1
  dsimp only [cxOf,Cx.nox,Cx.wish]
  refine R.seq ?_
  show tOp _ _ _ _ _ _
  walk_at "go"
  refine ⟨by decide,fun p1 hp1=>?_⟩
  walk_at "go"
  have s1:=same_upd_new (o:= .lst [.int 0]) hp1
  refine ⟨p1,n,_,rfl,rfl,upd_same,by omega,by omega,(by show 1*(n:Int).toNat<=_;rw [sizeLine_eq];omega),fun lv hlv=>?_⟩
  have s2:=s1.trans (same_upd_new (o:= .lst (List.replicate (n:Int).toNat [V.int 0]).flatten) hlv)
  have hlv2:(upd (upd H1 p1 (.lst [.int 0])) lv (.lst (List.replicate (n:Int).toNat [V.int 0]).flatten)) lv=some (.lst ((List.replicate n Fate.kept).map ftV)):=by
   rw [upd_same,Int.toNat_natCast]
   have e5:∀n:Nat,(List.replicate n [V.int 0]).flatten=(List.replicate n Fate.kept).map ftV:=by
    intro n
    induction n with
    |zero=>rfl
    |succ n ih=>
     rw [List.replicate_succ,List.flatten_cons,ih,List.replicate_succ]
     rfl
   rw [e5]
  generalize upd (upd H1 p1 (.lst [.int 0])) lv (.lst (List.replicate (n:Int).toNat [V.int 0]).flatten)=H2 at s2 hlv2⊢
  have nlv:lv≠x:=fun z=>by rw [z,s1 _ _ hx1] at hlv;cases hlv
  have hlv0:H1 lv=none:=s1.free hlv
  refine ⟨_,rfl,x,_,dx,_,rfl,s2 _ _ hx1,T.cl_157,T.no_Quire_leaves,(show 2 < 1000 by decide),?_⟩
  generalize hH3:upd H2 x _=H3
  have hx3:H3 x=some (.ins a.c_157 dx [("signature",.ref sg),("size",.int (n:Int)),("leaves",.ref lv)]):=by rw [←hH3,upd_same];rfl
  have o3:∀b o,H2 b=some o->b≠x->H3 b=some o:=fun b o e nb=>by rw [←hH3,upd_ne nb];exact e
  clear hH3
  refine ⟨_,rfl,_,_,rfl,rfl,((n:Int)+1),rfl,by omega,by omega,?_⟩
  have en:((n:Int)+1).toNat=n+1:=by omega
  rw [en]
  refine R.lc_gen (n+1) (fun _=>true) (fun i x _=>x= .int (0+(i:Int))) (fun D _ y H=>∃b,y= .ref b/\b≠D/\H b=some (.lst [])/\H3 b=none) (fun D i y H H' fr h=>?_) (by rw [sizeLine_eq];omega) R.itr_go R.itr_stop R.itr_yld (fun i y H4 D Y Z hi sm hD hacc yr yes no=>?_) (fun D ys H' hD hys sm hp=>?_)
  ·obtain ⟨b,e1,e2,e3,e4⟩:=h
   exact ⟨b,e1,e2,fr _ _ e2 e3,e4⟩
  ·refine ⟨rfl,?_⟩
   refine ⟨Nat.zero_le _,fun b hb=>?_⟩
   obtain ⟨acc,hacc⟩:=hacc
   exact yes _ _ (same_upd_new hb) rfl ⟨b,rfl,(ne_of_none hacc hb).symm,upd_same,sm.free hb⟩
  ·rw [List.filter_eq_self.mpr (fun _ _=>rfl)] at hp
   obtain ⟨gs,rfl,hg⟩:=paired_refs (F:=fun _ b=>b≠D/\H' b=some (.lst [])/\H3 b=none) hp
   have hD3:H3 D=none:=hD
   have nDx:D≠x:=(ne_of_none hx3 hD3).symm
   have hx4:=sm _ _ hx3
   refine ⟨_,rfl,x,_,dx,_,rfl,hx4,T.cl_157,T.no_Quire_gaps,(show 3 < 1000 by decide),?_⟩
   have nlD:lv≠D:=fun z=>by
    have:=o3 _ _ hlv2 nlv
    rw [z,hD3] at this
    cases this
   have h2n:H2 D=none:=by
    cases q:H2 D with
    |none=>rfl
    |some o=>rw [o3 _ _ q nDx] at hD3;cases hD3
   refine k _ lv D gs upd_same ?_ ?_ ?_ (nn _ hlv0) (nn _ (s2.free h2n)) ?_
   ·rw [upd_ne nlv]
    exact sm _ _ (o3 _ _ hlv2 nlv)
   ·rw [upd_ne nDx]
    exact hys
   ·refine paired_rep (R.paired_imp (fun _ b h=>?_) hg) (List.length_range)
    have nbx:b≠x:=fun z=>by
     have e:=h.2.2
     rw [z,hx3] at e
     cases e
    refine ⟨by rw [upd_ne nbx];exact h.2.1,?_⟩
    cases q:H b with
    |none=>rfl
    |some o=>
     have e:=h.2.2
     rw [o3 _ _ (s2 _ _ (o1 b o q nbx)) nbx] at e
     cases e
   ·intro b o e nb
    rw [upd_ne nb]
    exact sm _ _ (o3 _ _ (s2 _ _ (o1 b o e nb)) nb)
end
theorem fate_at {g:Gath} (h:WF g) {k:Nat} (hk:k < g.size):(g.fates.map ftV)[k]? =some (ftV (g.fate k)):=by
 rw [List.getElem?_map]
 unfold Quire.Gath.fate
 rw [List.getD_eq_getElem?_getD,List.getElem?_eq_getElem (by rw [h.fl];exact hk)]
 rfl
theorem scal_ft (f:Fate) (n:Int):scal (ftV f) (.int n)=true:=by cases f<;>rfl
theorem dft (f f':Fate):decide (ftV f=ftV f')=(f==f'):=by cases f<;>cases f'<;>rfl
theorem put_at {F:Word->Addr->Prop}:∀{ps:List Word} {gs:List Addr},Paired F ps gs->∀{k:Nat},k < ps.length->∃b,gs[k]? =some b/\F (ps.getD k []) b
 |_,_,.nil,k,h=>absurd h (Nat.not_lt_zero _)
 |_,_,.cons h t,0,_=>⟨_,rfl,h⟩
 |_,_,.cons h t,k+1,hk=>by
  obtain ⟨b,h1,h2⟩:=put_at t (k:=k) (Nat.lt_of_succ_lt_succ hk)
  exact ⟨b,h1,h2⟩
section
variable {P:Program} {w:World} {K:W.Frag} {mg:Str->Option Value} {base:Heap} {a:Adr}
def spLf (a:Adr) (f:Gath->Nat->V):Sp:=fun vs H Q _=>∃q g,∃leaf:Nat,vs= [.ref q,.int (leaf:Int)]/\QIs a H q g/\WF g/\1<=leaf/\leaf<=g.size/\Q (f g (leaf - 1)) H
theorem ok_33 (T:Txt K mg a):FnOk P w K mg base (CXd P w) 1 a.f_33 a.d_33 ["quire","leaf"] (spLf a fun g k=>ftV (g.fate (g.partner k))):=by
 refine okN T.u_33 sc_33 (fun vs H Q E h=>?_) (fun cdv A outer s H vs Q E hr h=>?_)
 ·obtain ⟨_,_,_,rfl,_⟩:=h;rfl
 ·obtain ⟨q,g,leaf,rfl,⟨sg,lv,gp,⟨dx,hq⟩,hsg,hlv,gs,hgp,hgs⟩,wf,h1,h2,k⟩:=h
  refine ⟨_,(pss_one (ps_ret (pe_ix ix_list (pe_fld (pv 0) rfl) (pe_op op_sub (pe_fld (pv 0) rfl) (pv 1)) (fun _ _=>rfl)))),?_⟩
  walk_at "go0"
  have e:((g.size:Int) - (leaf:Int))=((g.partner (leaf - 1):Nat):Int):=by
   unfold Quire.Gath.partner
   omega
  rw [e]
  exact R.ixl (SqL.of hlv) (atI_nat (fate_at wf (by unfold Quire.Gath.partner;omega))) k
theorem ok_67 (T:Txt K mg a):FnOk P w K mg base (CXd P w) 2 a.f_67 a.d_67 ["quire","leaf"] (spLf a fun g k=> .bl (Quire.cutOk g k)):=by
 refine okN T.u_67 sc_67 (fun vs H Q E h=>?_) (fun cdv A outer s H vs Q E hr h=>?_)
 ·obtain ⟨_,_,_,rfl,_⟩:=h;rfl
 ·obtain ⟨q,g,leaf,rfl,hQ,wf,h1,h2,k⟩:=h
  obtain ⟨sg,lv,gp,⟨dx,hq⟩,hsg,hlv,gs,hgp,hgs⟩:=id hQ
  refine ⟨_,(pss_one (ps_ret (pe_and (pe_cmpR op_gt (pe_fld (pv 0) rfl) pe_int (nomark _)) (pe_one (pe_cmpR op_eq (pe_call (ok_33 T) (rm hr) rfl T.m_33 T.u_33.kp (b_33 T) .nil passN (pa_cons (pv 0) (pa_cons (pv 1) pa_nil))) (g_164 T) (nomark _)))))),?_⟩
  have e:Quire.cutOk g (leaf - 1)=(decide ((1:Int) < (g.size:Int))&&decide (ftV (g.fate (g.partner (leaf - 1)))=ftV .kept)):=by
   unfold Quire.cutOk
   rw [dft]
   congr 1
   by_cases h:g.size=1
   ·rw [h];rfl
   ·have:=size_le wf.sz
    rw [decide_eq_true (by omega)]
    exact bne_iff_ne.mpr h
  dsimp only at k
  rw [e] at k
  walk_at "go0"
  refine R.eand ?_ (fun _=>?_) k
  ·walk_at "eve"
  ·intro Qv q2
   walk_at "go"
   refine ⟨q,g,leaf,rfl,hQ,wf,h1,h2,?_⟩
   walk_at "go"
   exact R.eq_ (scal_ft _ _) q2
def stV (s:Bool):V:=if s then .int 1 else .int 2
def spMB (a:Adr):Sp:=fun vs H Q _=>∃q g,∃leaf:Nat,∃ct:Bool,vs= [.ref q,.int (leaf:Int),stV ct]/\QIs a H q g/\WF g/\1<=leaf/\leaf<=g.size/\Q (.bl (if ct then Quire.cutOk g (leaf - 1) else g.fate (g.partner (leaf - 1)) != .cut)) H
theorem ok_68 (T:Txt K mg a):FnOk P w K mg base (CXd P w) 3 a.f_68 a.d_68 ["quire","leaf","state"] (spMB a):=by
 refine okN T.u_68 sc_68 (fun vs H Q E h=>?_) (fun cdv A outer s H vs Q E hr h=>?_)
 ·obtain ⟨_,_,_,_,rfl,_⟩:=h;rfl
 ·obtain ⟨q,g,leaf,ct,rfl,hQ,wf,h1,h2,k⟩:=h
  refine ⟨_,(pss_cons (ps_if (pt_cmpR op_eq (pv 2) (g_170 T) (nomark _)) (pss_one (ps_ret (pe_call (ok_67 T) (rm hr) rfl T.m_67 T.u_67.kp (b_67 T) .nil passN (pa_cons (pv 0) (pa_cons (pv 1) pa_nil))))) pss_nil) (pss_one (ps_ret (pe_cmpR op_ne (pe_call (ok_33 T) (rm hr) rfl T.m_33 T.u_33.kp (b_33 T) .nil passN (pa_cons (pv 0) (pa_cons (pv 1) pa_nil))) (g_170 T) (nomark _))))),?_⟩
  cases ct with
  |true=>
   dsimp only [stV]
   rw [if_pos rfl] at*
   walk_at "go0"
   refine (if_pos (by decide):_=_).mpr ?_
   walk_at "go"
   exact ⟨q,g,leaf,rfl,hQ,wf,h1,h2,k⟩
  |false=>
   dsimp only [stV]
   rw [if_neg Bool.false_ne_true] at*
   walk_at "go0"
   refine (if_neg (by decide):_=_).mpr ?_
   walk_at "go"
   refine ⟨q,g,leaf,rfl,hQ,wf,h1,h2,?_⟩
   walk_at "go"
   refine R.ne_ (scal_ft _ _) ?_
   have e:(!decide (ftV (g.fate (g.partner (leaf - 1)))=V.int 1))=(g.fate (g.partner (leaf - 1)) != .cut):=by
    rw [show V.int 1=ftV .cut from rfl,dft]
    rfl
   rw [e]
   exact k
def spLS (a:Adr):Sp:=fun vs H Q _=>∃q g,∃leaf:Nat,vs= [.ref q,.int (leaf:Int)]/\QIs a H q g/\WF g/\1<=leaf/\leaf<=g.size/\∀p H',H p=none->H' p=some (.lst (wdV (g.leaf (leaf - 1))))->Same H H'->Q (.ref p) H'
theorem ok_65 (T:Txt K mg a):FnOk P w K mg base (CXd P w) 2 a.f_65 a.d_65 ["quire","leaf"] (spLS a):=by
 refine okN T.u_65 sc_65 (fun vs H Q E h=>?_) (fun cdv A outer s H vs Q E hr h=>?_)
 ·obtain ⟨_,_,_,rfl,_⟩:=h;rfl
 ·obtain ⟨q,g,leaf,rfl,hQ,wf,h1,h2,k⟩:=h
  obtain ⟨sg,lv,gp,⟨dx,hq⟩,hsg,hlv,gs,hgp,hgs⟩:=id hQ
  refine ⟨_,(pss_cons (ps_set (i:=2) sc_65.nd rfl (Or.inl rfl) (pe_ix ix_list (pe_fld (pv 0) rfl) (pe_op op_sub (pv 1) pe_int) (fun _ _=>rfl))) (pss_cons (ps_set (i:=3) sc_65.nd rfl (Or.inl rfl) (pe_cmpR op_le (pe_op op_mul pe_int (pv 1)) (pe_fld (pv 0) rfl) (nomark _))) (pss_cons (ps_if (pt_cmpR op_eq (pv 2) (g_166 T) (nomark _)) (pss_one (ps_ret (pe_lst pa_nil))) pss_nil) (pss_cons (ps_if (pt_cmpR op_eq (pv 2) (g_170 T) (nomark _)) (pss_one (ps_ret (pe_lst (pa_cons (pe_ifExp (pt_truth (pv 3) (fun _=>rfl)) (g_61 T) (g_75 T)) pa_nil)))) pss_nil) (pss_cons (ps_if (PW.pt (pw_or (pt_cmpR op_eq (pe_fld (pv 0) rfl) pe_int (nomark _)) (pw_or1 (pt_cmpR op_eq (pe_call (ok_33 T) (rm hr) rfl T.m_33 T.u_33.kp (b_33 T) .nil passN (pa_cons (pv 0) (pa_cons (pv 1) pa_nil))) (g_166 T) (nomark _))))) (pss_one (ps_ret (pe_lst (pa_cons (g_153 T) pa_nil)))) pss_nil) (pss_one (ps_ret (pe_lst (pa_cons (pe_ifExp (pt_truth (pv 3) (fun _=>rfl)) (g_58 T) (g_71 T)) pa_nil))))))))),?_⟩
  have ei:((leaf:Int) - 1)=((leaf - 1:Nat):Int):=by omega
  have hfr:∀b:Bool,decide (2*(leaf:Int)<=(g.size:Int))=decide (leaf - 1 < g.size / 2):=fun _=>by
   by_cases h:leaf - 1 < g.size / 2
   ·rw [decide_eq_true h,decide_eq_true (by omega)]
   ·rw [decide_eq_false h,decide_eq_false (by omega)]
  walk_at "go0"
  rw [ei]
  refine R.ixl (SqL.of hlv) (atI_nat (fate_at wf (by omega))) ?_
  walk_at "go"
  refine R.iC (.inl ⟨by decide,by decide⟩) ?_
  walk_at "go"
  rw [hfr true]
  unfold Quire.Gath.leaf at k
  refine R.eq_ (scal_ft _ _) ?_
  rw [show V.int 2=ftV .lost from rfl,dft]
  walk_at "go"
  cases hf:g.fate (leaf - 1) with
  |lost=>
   rw [hf] at k
   refine (if_pos rfl:_=_).mpr ?_
   walk_at "go"
   exact ⟨Nat.zero_le _,fun p hp=>k p _ hp upd_same (same_upd_new hp)⟩
  |cut=>
   rw [hf] at k
   refine (if_neg (by decide):_=_).mpr ?_
   walk_at "go"
   refine (if_pos rfl:_=_).mpr ?_
   walk_at "go"
   refine R.dif (fun h=>?_) (fun h=>?_)<;>walk_at "go"
   ·dsimp only at k
    rw [if_pos h] at k
    exact ⟨by decide,fun p hp=>k p _ hp upd_same (same_upd_new hp)⟩
   ·dsimp only at k
    rw [if_neg h] at k
    exact ⟨by decide,fun p hp=>k p _ hp upd_same (same_upd_new hp)⟩
  |kept=>
   rw [hf] at k
   refine (if_neg (by decide):_=_).mpr ?_
   walk_at "go"
   refine (if_neg (by decide):_=_).mpr ?_
   walk_at "go"
   refine R.evor (b1:=decide (V.int (g.size:Int)= .int 1)) (b2:=g.fate (g.partner (leaf - 1))== .lost) ?_ ?_ ?_
   ·walk_at "ev"
   ·intro Qb q2
    walk_at "go"
    refine ⟨q,g,leaf,rfl,hQ,wf,h1,h2,?_⟩
    walk_at "go"
    refine R.eq_ (scal_ft _ _) ?_
    dsimp only
    rw [dft]
    exact R.bl q2
   ·rw [dVi]
    dsimp only at k
    refine R.bbif (fun h=>?_) (fun h=>?_)<;>walk_at "go"
    ·have h5:g.size=1∨g.fate (g.partner (leaf - 1))= .lost:=by
      rw [Bool.or_eq_true,decide_eq_true_eq,beq_iff_eq] at h
      rcases h with h|h
      ·exact .inl (by omega)
      ·exact .inr h
     rw [if_pos h5] at k
     exact ⟨by decide,fun p hp=>k p _ hp upd_same (same_upd_new hp)⟩
    ·have h5:¬(g.size=1∨g.fate (g.partner (leaf - 1))= .lost):=by
      rw [Bool.or_eq_false_iff,decide_eq_false_iff_not,beq_eq_false_iff_ne] at h
      rintro (z|z)
      ·exact h.1 (by omega)
      ·exact h.2 z
     rw [if_neg h5] at k
     refine R.dif (fun h=>?_) (fun h=>?_)<;>walk_at "go"
     ·rw [if_pos h] at k
      exact ⟨by decide,fun p hp=>k p _ hp upd_same (same_upd_new hp)⟩
     ·rw [if_neg h] at k
      exact ⟨by decide,fun p hp=>k p _ hp upd_same (same_upd_new hp)⟩
def spQW (a:Adr) (f:Gath->Word):Sp:=fun vs H Q _=>∃q g,vs= [.ref q]/\QIs a H q g/\WF g/\∀p H',H p=none->H' p=some (.lst (wdV (f g)))->Same H H'->Q (.ref p) H'
theorem leaf_len (g:Gath) (k:Nat):(g.leaf k).length<=1:=by
 unfold Quire.Gath.leaf
 cases g.fate k<;>dsimp only<;>(try split)<;>simp
theorem put_len {g:Gath} (wf:WF g) (k:Nat):(g.put k).length<=21:=by
 unfold Quire.Gath.put
 rw [List.getD_eq_getElem?_getD]
 cases h:g.puts[k]? with
 |none=>exact Nat.zero_le _
 |some w=>exact wf.wl w (List.mem_of_getElem? h)
def wordTo (g:Gath) (n:Nat):Word:=g.put 0++(List.range n).flatMap fun k=>g.leaf k++g.put (k+1)
theorem wordTo_succ (g:Gath) (n:Nat):wordTo g (n+1)=wordTo g n++g.leaf n++g.put (n+1):=by
 unfold wordTo
 rw [List.range_succ,List.flatMap_append]
 simp
theorem wordTo_len {g:Gath} (wf:WF g):∀n,(wordTo g n).length<=21+22*n
 |0=>by
  have:=put_len wf 0
  unfold wordTo
  simpa using this
 |n+1=>by
  have h1:=wordTo_len wf n
  have h2:=leaf_len g n
  have h3:=put_len wf (n+1)
  rw [wordTo_succ,List.length_append,List.length_append]
  omega
theorem wdV_app (l m:Word):wdV (l++m)=wdV l++wdV m:=List.map_append ..
theorem ok_169 (T:Txt K mg a):FnOk P w K mg base (CXd P w) 3 a.f_169 a.d_169 ["quire"] (spQW a Gath.word):=by
 refine okN T.u_169 sc_169 (fun vs H Q E h=>?_) (fun cdv A outer s H vs Q E hr h=>?_)
 ·obtain ⟨_,_,rfl,_⟩:=h;rfl
 ·obtain ⟨q,g,rfl,hQ,wf,k⟩:=h
  obtain ⟨sg,lv,gp,⟨dx,hq⟩,hsg,hlv,gs,hgp,hgs⟩:=id hQ
  have sz:=size_le wf.sz
  refine ⟨_,(pss_cons (ps_set (i:=1) sc_169.nd rfl (Or.inl rfl) (pe_callTy call_list_of (by rfl) T.b_list (by rfl) (pa_cons (pe_ix ix_list (pe_fld (pv 0) rfl) pe_int (fun _ _=>rfl)) pa_nil))) (pss_cons (ps_for PassesOwn.never rfl (pi_range2 rfl T.b_range (pa_cons pe_int (pa_cons (pe_op op_add (pe_fld (pv 0) rfl) pe_int) pa_nil))) (pg_name (i:=2) sc_169.nd rfl (Or.inl rfl)) (pss_cons (ps_expr (pe_bm PySem.F.plainAttrs_list PySem.F.slot_list_extend PySem.F.type_list_extend mt_extend (pv 1) (pa_cons (pe_call (ok_65 T) (rm hr) rfl T.m_65 T.u_65.kp (b_65 T) .nil passN (pa_cons (pv 0) (pa_cons (pv 2) pa_nil))) pa_nil))) (pss_one (ps_expr (pe_bm PySem.F.plainAttrs_list PySem.F.slot_list_extend PySem.F.type_list_extend mt_extend (pv 1) (pa_cons (pe_ix ix_list (pe_fld (pv 0) rfl) (pv 2) (fun _ _=>rfl)) pa_nil)))))) (pss_one (ps_ret (pv 1))))),?_⟩
  walk_at "go0"
  obtain ⟨b0,hb0,hw0⟩:=put_at hgs (k:=0) (by rw [wf.pl];omega)
  have gix:∀{k:Nat} {b:Addr},gs[k]? =some b->atI (gs.map V.ref) (k:Int)=some (V.ref b):=fun h=>atI_nat (by rw [List.getElem?_map,h];rfl)
  refine R.ixl (SqL.of hgp) (gix hb0) ?_
  walk_at "go"
  refine ⟨b0,_,rfl,.inl (SqL.of hw0),fun l hl=>?_⟩
  have nw:=R.new_of (o:= .lst (wdV (g.puts.getD 0 []))) hl
  generalize upd H l (.lst (wdV (g.puts.getD 0 [])))=H1 at nw⊢
  obtain ⟨n1,h1,sm⟩:=nw
  have hq1:=sm _ _ hq
  walk_at "go"
  walk_at "for"
  refine ⟨1,(g.size:Int)+1,rfl,⟨by omega,by omega,by omega,by omega⟩,?_⟩
  have en:((g.size:Int)+1 - 1).toNat=g.size:=by omega
  rw [en]
  refine for_range (fun i σ H'=>∃v2:Option V,σ= [some (.ref q),some (.ref l),v2]/\Same H H'/\H' l=some (.lst (wdV (wordTo g i)))) ⟨none,rfl,sm,?_⟩ ?_ ?_
  ·rw [h1]
   unfold wordTo
   rw [List.range_zero]
   simp
   rfl
  ·rintro i σ H' hi ⟨v2,rfl,s5,hl5⟩
   have wlen:=wordTo_len wf i
   have ei:((1:Int)+(i:Int))=((i+1:Nat):Int):=by omega
   rw [ei]
   have hQ5:=hQ.same s5
   walk_at "go"
   refine ⟨.inl ⟨rfl,_,SqL.of hl5⟩,?_⟩
   walk_at "go"
   refine ⟨q,g,i+1,rfl,hQ5,wf,by omega,by omega,fun p2 H2 hp2 hv2 s2=>?_⟩
   walk_at "go"
   refine ⟨l,p2,_,_,rfl,rfl,s2 _ _ hl5,hv2,?_,?_⟩
   ·have:=leaf_len g (i+1 - 1)
    rw [wdV_len,wdV_len,sizeLine_eq]
    omega
   ·have s6:Same H (upd H2 l (.lst (wdV (wordTo g i)++wdV (g.leaf (i+1 - 1))))):=same_upd (s5.trans s2) n1
    generalize hH6:upd H2 l (.lst (wdV (wordTo g i)++wdV (g.leaf (i+1 - 1))))=H6 at s6⊢
    have hl6:H6 l=some (.lst (wdV (wordTo g i++g.leaf i))):=by rw [←hH6,upd_same,wdV_app];rfl
    clear hH6
    have hq6:=s6 _ _ hq
    walk_at "go"
    refine ⟨.inl ⟨rfl,_,SqL.of hl6⟩,?_⟩
    walk_at "go"
    obtain ⟨b,hb,hw⟩:=put_at hgs (k:=i+1) (by rw [wf.pl];omega)
    refine R.ixl (SqL.of (s6 _ _ hgp)) (gix hb) ?_
    walk_at "go"
    refine ⟨l,b,_,_,rfl,rfl,hl6,s6 _ _ hw,?_,?_⟩
    ·have:=leaf_len g i
     have:=put_len wf (i+1)
     have e:(g.puts.getD (i+1) [])=g.put (i+1):=rfl
     rw [wdV_len,wdV_len,sizeLine_eq,List.length_append,e]
     omega
    ·refine ⟨_,rfl,same_upd s6 n1,?_⟩
     rw [upd_same,wordTo_succ,wdV_app (wordTo g i++g.leaf i)]
     rfl
  ·rintro σ H' ⟨v2,rfl,s5,hl5⟩
   walk_at "go"
   exact k l H' n1 hl5 s5
theorem ok_31 (T:Txt K mg a):FnOk P w K mg base (CXd P w) 4 a.f_31 a.d_31 ["quire"]
  (fun vs H Q _=>∃q g,vs= [.ref q]/\QIs a H q g/\WF g/\∀H',Same H H'->Q (.bl (decide (g.word.length<=21)&&Quire.hasLeaf g.word)) H'):=by
 refine okN T.u_31 sc_31 (fun vs H Q E h=>?_) (fun cdv A outer s H vs Q E hr h=>?_)
 ·obtain ⟨_,_,rfl,_⟩:=h;rfl
 ·obtain ⟨q,g,rfl,hQ,wf,k⟩:=h
  have sz:=size_le wf.sz
  refine ⟨_,(pss_cons (ps_set (i:=1) sc_31.nd rfl (Or.inl rfl) (pe_call (ok_169 T) (rm hr) rfl T.m_169 T.u_169.kp (b_169 T) .nil passN (pa_cons (pv 0) pa_nil))) (pss_one (ps_ret (pe_and (pe_cmpR op_le (pe_callB call_len_seq (by rfl) T.b_len PySem.boot_len (pa_cons (pv 1) pa_nil)) (g_46 T) (nomark _)) (pe_one (pe_call (ok_136 T) (rm hr) rfl T.m_136 T.u_136.kp (b_136 T) .nil passN (pa_cons (pv 1) pa_nil))))))),?_⟩
  walk_at "go0"
  refine ⟨q,g,rfl,hQ,wf,fun p H1 hp hv sm=>?_⟩
  have wl:g.word.length<=1000000:=by
   have:=wordTo_len wf g.size
   have e:wordTo g g.size=g.word:=rfl
   rw [e] at this
   omega
  walk_at "go"
  refine R.EsEand (b1:=decide (g.word.length<=21)) (b2:=Quire.hasLeaf g.word) (R.EvE.es ?_) (fun _ H2 s2=>?_) _ (fun H2 s2=>k H2 (sm.trans s2))
  ·intro Qv q2
   walk_at "go"
   refine ⟨p,_,rfl,.inl (SqL.of hv),?_⟩
   walk_at "go"
   rw [wdV_len]
   have e:decide ((g.word.length:Int)<=21)=decide (g.word.length<=21):=by
    by_cases h:g.word.length<=21
    ·rw [decide_eq_true h,decide_eq_true (by omega)]
    ·rw [decide_eq_false h,decide_eq_false (by omega)]
   rw [e]
   exact q2
  ·intro Qv q2
   walk_at "go"
   exact ⟨p,_,rfl,SqL.of (s2 _ _ hv),wl,fun H3 s3=>q2 H3 s3⟩
end
end Q
namespace R
open PySem PySem.Spec PyProof.Rows L2 XL
section
variable {K:W.Frag} {H:Hp} {Q:VK}
theorem dpInts:∀ns:List Int,DpAll K H (ns.map V.int) (ns.map PyData.int)
 | []=> .nil
 |n::r=> .cons (.int n) (dpInts r)
theorem eqvInts:∀ns ms:List Int,PyData.eqvAll (ns.map PyData.int) (ms.map PyData.int)=decide (ns=ms)
 | [],[]=>by simp [PyData.eqvAll]
 | [],m::ms=>by simp [PyData.eqvAll]
 |n::ns,[]=>by simp [PyData.eqvAll]
 |n::ns,m::ms=>by
  show (PyData.eqv (.int n) (.int m)&&PyData.eqvAll (ns.map PyData.int) (ms.map PyData.int))=_
  rw [eqvInts ns ms]
  show ((n==m)&&decide (ns=ms))=decide (n::ns=m::ms)
  by_cases h:n=m
  ·subst h;simp
  ·simp [h]
theorem layInts:∀ns:List Int,PyData.canLayAll0 (ns.map PyData.int)=true
 | []=>by simp [PyData.canLayAll0]
 |n::ns=>by
  show (PyData.canLay0 (.int n)&&PyData.canLayAll0 (ns.map PyData.int))=true
  rw [layInts ns]
  simp [PyData.canLay0]
theorem depInts:∀ns:List Int,PyData.depthAll (ns.map PyData.int)=0
 | []=>by simp [PyData.depthAll]
 |n::ns=>by
  show max (PyData.depth (.int n)) (PyData.depthAll (ns.map PyData.int))=0
  rw [depInts ns]
  simp [PyData.depth]
theorem shL (ns:List Int):SeqAt.shaped (.list (ns.map PyData.int))=true:=by
 unfold SeqAt.shaped
 have h1:PyData.canLay0 (.list (ns.map PyData.int))=true:=by rw [PyData.canLay0];exact layInts ns
 have h2:PyData.depth (.list (ns.map PyData.int))=1:=by rw [PyData.depth,depInts ns]
 rw [h1,h2]
 rfl
theorem shT (ns:List Int):SeqAt.shaped (.tuple (ns.map PyData.int))=true:=by
 unfold SeqAt.shaped
 have h1:PyData.canLay0 (.tuple (ns.map PyData.int))=true:=by rw [PyData.canLay0];exact layInts ns
 have h2:PyData.depth (.tuple (ns.map PyData.int))=1:=by rw [PyData.depth,depInts ns]
 rw [h1,h2]
 rfl
theorem eqL {p q:Addr} {xs ys:List V} (ns ms:List Int) (h1:SqL K H p xs) (h2:SqL K H q ys) (e1:xs=ns.map V.int) (e2:ys=ms.map V.int) (k:Q (.bl (decide (ns=ms))) H):rEqD K (.ref p) (.ref q) H Q:=by
 subst e1 e2
 refine ⟨_,_,.lst h1 (dpInts ns),.lst h2 (dpInts ms),shL ns,shL ms,?_⟩
 rw [PyData.eqv,eqvInts]
 exact k
theorem eqT {p q:Addr} {xs ys:List V} (ns ms:List Int) (h1:SqT K H p xs) (h2:SqT K H q ys) (e1:xs=ns.map V.int) (e2:ys=ms.map V.int) (k:Q (.bl (decide (ns=ms))) H):rEqD K (.ref p) (.ref q) H Q:=by
 subst e1 e2
 refine ⟨_,_,.tup h1 (dpInts ns),.tup h2 (dpInts ms),shT ns,shT ms,?_⟩
 rw [PyData.eqv,eqvInts]
 exact k
theorem neT {p q:Addr} {xs ys:List V} (ns ms:List Int) (h1:SqT K H p xs) (h2:SqT K H q ys) (e1:xs=ns.map V.int) (e2:ys=ms.map V.int) (k:Q (.bl (!decide (ns=ms))) H):rNeD K (.ref p) (.ref q) H Q:=by
 subst e1 e2
 refine ⟨_,_,.tup h1 (dpInts ns),.tup h2 (dpInts ms),shT ns,shT ms,?_⟩
 rw [PyData.eqv,eqvInts]
 exact k
theorem neNT {q:Addr} {ys:List V} (ms:List Int) (h2:SqT K H q ys) (e2:ys=ms.map V.int) (k:Q (.bl true) H):rNeD K .non (.ref q) H Q:=by
 subst e2
 refine ⟨_,_,.non,.tup h2 (dpInts ms),by decide,shT ms,?_⟩
 rw [PyData.eqv]
 exact k
theorem sqT_of {p:Addr} {xs:List V} (h:H p=some (.tup xs)):SqT K H p xs:= .inl (.inl h)
end
end R
namespace Q
open PySem PySem.Spec PyProof.Rows L2 XL
open Quire (Sign Word Sig Gath Fate)
open QuireCopies (Line)
def ftI:Fate->Int
 | .kept=>0
 | .cut=>1
 | .lost=>2
theorem ftV_I (l:List Fate):l.map ftV=(l.map ftI).map V.int:=by
 rw [List.map_map]
 exact List.map_congr_left fun f _=>by cases f<;>rfl
def sgI (s:Sig):List Int:= [(s.times:Int),(s.sign:Int)]
theorem sgV_I (s:Sig):sgV s=(sgI s).map V.int:=rfl
theorem sgI_eq {s t:Sig}:(sgI s=sgI t)↔s=t:=by
 obtain ⟨a,b⟩:=s
 obtain ⟨c,d⟩:=t
 unfold sgI
 constructor
 ·intro h
  simp only [List.cons.injEq,and_true] at h
  have h1:b=d:=by omega
  have h2:a=c:=by omega
  rw [h1,h2]
 ·intro h
  cases h
  rfl
theorem sgI_dec (s t:Sig):decide (sgI s=sgI t)=decide (s=t):=by
 by_cases h:s=t
 ·rw [decide_eq_true h,decide_eq_true (sgI_eq.mpr h)]
 ·rw [decide_eq_false h,decide_eq_false fun z=>h (sgI_eq.mp z)]
section
variable {P:Program} {w:World} {K:W.Frag} {mg:Str->Option Value} {base:Heap} {a:Adr}
def spQB (a:Adr) (f:Gath->Bool):Sp:=fun vs H Q _=>∃q g,vs= [.ref q]/\QIs a H q g/\WF g/\∀H',Same H H'->Q (.bl (f g)) H'
theorem rep_flat (n:Nat) (v:V):(List.replicate n [v]).flatten=List.replicate n v:=by
 induction n with
 |zero=>rfl
 |succ n ih=>rw [List.replicate_succ,List.flatten_cons,ih,List.replicate_succ];rfl
theorem kept_all:∀(l:List Fate) (n:Nat),l.length=n->decide (l.map ftI=List.replicate n 0)=l.all (fun f=>f== .kept)
 | [],0,_=>rfl
 |f::l,n+1,h=>by
  have ih:=kept_all l n (by simpa using h)
  rw [List.all_cons,←ih,List.map_cons,List.replicate_succ]
  cases f<;>simp [ftI]
theorem paired_val {F:Word->Addr->Prop} {f:Word->V} (g:Addr->V) (h:∀w b,F w b->g b=f w):∀{ws:List Word} {bs:List Addr},Paired F ws bs->bs.map g=ws.map f
 |_,_,.nil=>rfl
 |_,_,.cons e t=>by rw [List.map_cons,List.map_cons,h _ _ e,paired_val g h t]
theorem paired_mem {α β:Type} {F:α->β->Prop}:∀{l:List α} {m:List β},Paired F l m->∀y∈m,∃x∈l,F x y
 |_,_,.nil,y,h=>nomatch h
 |_,_,.cons e t,y,h=>by
  rcases List.mem_cons.mp h with z|z
  ·subst z;exact ⟨_,List.mem_cons_self,e⟩
  ·obtain ⟨x,h1,h2⟩:=paired_mem t y z
   exact ⟨x,List.mem_cons_of_mem _ h1,h2⟩
theorem paired_len {α β:Type} {F:α->β->Prop} {l:List α} {m:List β} (h:Paired F l m):l.length=m.length:=Paired.length h
theorem ok_137 (T:Txt K mg a):FnOk P w K mg base (CXd P w) 1 a.f_137 a.d_137 ["quire"] (spQB a Gath.plain):=by
 refine okN T.u_137 sc_137 (fun vs H Q E h=>?_) (fun cdv A outer s H vs Q E hr h=>?_)
 ·obtain ⟨_,_,rfl,_⟩:=h;rfl
 ·obtain ⟨q,g,rfl,hQ,wf,k⟩:=h
  obtain ⟨sg,lv,gp,⟨dx,hq⟩,hsg,hlv,gs,hgp,hgs⟩:=id hQ
  have sz:=size_le wf.sz
  refine ⟨_,(pss_one (ps_ret (pe_and (pe_cmpR (op_eqD hr.units) (pe_fld (pv 0) rfl) (pe_op op_rep (pe_lst (pa_cons (g_164 T) pa_nil)) (pe_fld (pv 0) rfl)) (nomark _)) (pe_one (pe_callB (cr_all rfl) (by rfl) T.b_all (by rfl) (pa_cons (pe_lc rfl sc_137.nd (pi_list (pe_fld (pv 0) rfl)) (blkOk_by (own:= [("signs",1)]) rfl) (fun _ _ _ _ _=>(pg_name (i:=1) sc_137.nd rfl (Or.inl rfl))) (fun _ _ _ _ _=>pts_nil) (fun _ _ _ _ _=>(pe_notTK (K:=K) rfl (pv 1)))) pa_nil)))))),?_⟩
  walk_at "go0"
  unfold Quire.Gath.plain at k
  refine R.EsEand (b1:=g.fates.all (fun f=>f== .kept)) (b2:=g.puts.all (fun w=>w.isEmpty)) ?_ (fun _ H2 s2=>?_) _ (fun H2 s2=>k H2 s2)
  ·intro Qv q2
   walk_at "go"
   refine ⟨by decide,fun p1 hp1=>?_⟩
   have s1:=same_upd_new (o:= .lst [.int 0]) hp1
   have hq1:=s1 _ _ hq
   walk_at "go"
   refine ⟨p1,g.size,_,rfl,rfl,upd_same,by omega,by omega,(by show 1*(g.size:Int).toNat<=_;rw [sizeLine_eq];omega),fun p2 hp2=>?_⟩
   have s2:=s1.trans (same_upd_new (o:= .lst (List.replicate (g.size:Int).toNat [V.int 0]).flatten) hp2)
   refine R.eqL (g.fates.map ftI) (List.replicate g.size 0) (SqL.of (s2 _ _ hlv)) (SqL.of upd_same) (ftV_I _) ?_ ?_
   ·rw [Int.toNat_natCast,rep_flat]
    simp
   ·rw [kept_all _ _ wf.fl]
    exact q2 _ s2
  ·intro Qv q2
   have hq2:=s2 _ _ hq
   have hgp2:SqL K H2 gp (gs.map V.ref):=SqL.of (s2 _ _ hgp)
   have hgs2:=R.paired_imp (fun _ _ h=>s2 _ _ h) hgs
   walk_at "go"
   let f:V->V:=fun v=>match v with
    | .ref b=>(match H2 b with|some (.lst xs)=> .bl xs.isEmpty|_=> .non)
    |_=> .non
   have hl:=paired_len hgs
   refine R.lc_pureL f hgp2 (by rw [List.length_map,←hl,wf.pl,sizeLine_eq];omega) ?_ (fun x hx H' sm=>?_) (fun D H' hD hys sm=>?_)
   ·intro _;rfl
   ·obtain ⟨b,hb,rfl⟩:=List.mem_map.mp hx
    obtain ⟨wd,_,hwd⟩:=paired_mem hgs2 b hb
    intro Qw q3
    walk_at "go"
    refine R.truL (SqL.of (sm _ _ hwd)) ?_
    have e:f (.ref b)= .bl (!(!(wdV wd).isEmpty)):=by
     show (match H2 b with|some (.lst xs)=>V.bl xs.isEmpty|_=> .non)=_
     rw [hwd]
     simp
    rw [e] at q3
    exact q3
   ·walk_at "go"
    have e:(gs.map V.ref).map f=(g.puts.map (fun w=>w.isEmpty)).map V.bl:=by
     rw [List.map_map,List.map_map]
     refine paired_val _ (fun wd b h=>?_) hgs2
     show (match H2 b with|some (.lst xs)=>V.bl xs.isEmpty|_=> .non)=V.bl wd.isEmpty
     rw [h]
     cases wd<;>rfl
    rw [e] at hys
    refine ⟨D,_,rfl,SqL.of hys,?_⟩
    rw [List.all_map]
    exact q2 H' sm
def spJn (a:Adr):Sp:=fun vs H Q _=>∃q1 q2 g1 g2,vs= [.ref q1,.ref q2]/\QIs a H q1 g1/\QIs a H q2 g2/\WF g1/\WF g2/\g1.sig.times<=99/\∀H',Same H H'->Q (.bl (Quire.follows g1 g2)) H'
theorem ok_162 (T:Txt K mg a):FnOk P w K mg base (CXd P w) 3 a.f_162 a.d_162 ["before","quire"] (spJn a):=by
 refine okN T.u_162 sc_162 (fun vs H Q E h=>?_) (fun cdv A outer s H vs Q E hr h=>?_)
 ·obtain ⟨_,_,_,_,rfl,_⟩:=h;rfl
 ·obtain ⟨q1,q2,g1,g2,rfl,hQ1,hQ2,wf1,wf2,htm,k⟩:=h
  obtain ⟨sg,lv,gp,⟨dx,hq⟩,hsg,hlv,gs,hgp,hgs⟩:=id hQ1
  obtain ⟨sg',lv',gp',⟨dx',hq'⟩,hsg',hlv',gs',hgp',hgs'⟩:=id hQ2
  refine ⟨_,(pss_cons (ps_if (PW.pt (pw_or (pt_cmpR op_ne (pe_fld (pv 0) rfl) (pe_fld (pv 1) rfl) (nomark _)) (pw_or1 (pt_cmpR (op_neD hr.units) (pe_call (ok_3 T) (rm hr) rfl T.m_3 T.u_3.kp (b_3 T) .nil passN (pa_cons (pe_fld (pv 0) rfl) pa_nil)) (pe_fld (pv 1) rfl) (nomark _))))) (pss_one (ps_ret pe_bl)) pss_nil) (pss_one (ps_ret (pe_and (pe_call (ok_137 T) (rm hr) rfl T.m_137 T.u_137.kp (b_137 T) .nil passN (pa_cons (pv 0) pa_nil)) (pe_one (pe_call (ok_137 T) (rm hr) rfl T.m_137 T.u_137.kp (b_137 T) .nil passN (pa_cons (pv 1) pa_nil))))))),?_⟩
  walk_at "go0"
  refine R.es (b:= !decide (V.int (g1.size:Int)= .int (g2.size:Int))|| !decide (g1.sig.next=some g2.sig)) (R.Esor (R.Ev.es ?_) fun _ H1 s1=>?_) fun H1 s1=>?_
  ·walk_at "ev"
  ·intro Qb q
   have hq1:=s1 _ _ hq
   walk_at "go"
   refine ⟨sg,g1.sig,rfl,R.sqT_of (s1 _ _ hsg),htm,?_⟩
   cases hn:g1.sig.next with
   |none=>
    intro H2 s2
    have hq2:=s2 _ _ (s1 _ _ hq')
    walk_at "go"
    refine R.neNT (sgI g2.sig) (R.sqT_of (s2 _ _ (s1 _ _ hsg'))) (sgV_I _) (R.bl ?_)
    rw [hn,decide_eq_false (by simp)] at q
    exact q H2 s2
   |some z=>
    intro p2 H2 hp2 s2
    have hq2:=s2 _ _ (s1 _ _ hq')
    walk_at "go"
    refine R.neT (sgI z) (sgI g2.sig) (R.sqT_of hp2) (R.sqT_of (s2 _ _ (s1 _ _ hsg'))) (sgV_I _) (sgV_I _) (R.bl ?_)
    have e:decide (g1.sig.next=some g2.sig)=decide (z=g2.sig):=by rw [hn];simp
    rw [sgI_dec,←e]
    exact q H2 s2
  ·rw [dVi]
   refine R.bbif (fun h=>?_) (fun h=>?_)
   ·walk_at "go"
    have e:Quire.follows g1 g2=false:=by
     unfold Quire.follows
     rw [Bool.or_eq_true,Bool.not_eq_true',Bool.not_eq_true',decide_eq_false_iff_not,decide_eq_false_iff_not] at h
     rcases h with h|h
     ·have:(g1.size==g2.size)=false:=beq_eq_false_iff_ne.mpr (fun z=>h (by rw [z]))
      rw [this];simp
     ·have:(g1.sig.next==some g2.sig)=false:=beq_eq_false_iff_ne.mpr h
      rw [this];simp
    rw [e] at k
    exact k H1 s1
   ·walk_at "go"
    have e:Quire.follows g1 g2=(g1.plain&&g2.plain):=by
     unfold Quire.follows
     rw [Bool.or_eq_false_iff,Bool.not_eq_false',Bool.not_eq_false',decide_eq_true_eq,decide_eq_true_eq] at h
     have h1:(g1.size==g2.size)=true:=beq_iff_eq.mpr (by omega)
     have h2:(g1.sig.next==some g2.sig)=true:=beq_iff_eq.mpr h.2
     rw [h1,h2]
     simp
    rw [e] at k
    refine R.EsEand ?_ (fun _ H2 s2=>?_) _ (fun H2 s2=>k H2 (s1.trans s2))
    ·intro Qv q
     walk_at "go"
     exact ⟨q1,g1,rfl,hQ1.same s1,wf1,fun H' s'=>q H' s'⟩
    ·intro Qv q
     walk_at "go"
     exact ⟨q2,g2,rfl,hQ2.same (s1.trans s2),wf2,fun H' s'=>q H' s'⟩
end
end Q
namespace Q
open Quire
def leafNote (g:Gath) (last p:Nat) (ct:Bool) (l:Text):Rd (Gath×Nat):=match number digit (p+1) l with
 | .error e=> .error e
 | .ok (k,q,u)=>if 2*k - 1+1<=last∨(decide (1<=k)&&(decide (k<=g.size)&&(if ct then cutOk g (k - 1) else g.fate (g.partner (k - 1)) != .cut)))=false then .error p
  else .ok (({g with fates:=g.fates.set (k - 1) (if ct then .cut else .lost)},2*k - 1+1),q,u)
def gapNote (g:Gath) (last p:Nat) (l:Text):Rd (Gath×Nat):=match number digit p l with
 | .error e=> .error e
 | .ok (k,q,u)=>if 2*k+1<=last∨decide (k<=g.size)=false then .error p else match charAt PLUS q u with
  | .error e=> .error e
  | .ok (_,q,u)=>match putIn q u with
   | .error e=> .error e
   | .ok (ow,q,u)=>if (ow.getD []).isEmpty=true then .error p else .ok (({g with puts:=g.puts.set k (ow.getD [])},2*k+1),q,u)
theorem right_rep (n:Nat) (h:n<=9):right (List.replicate n .alone)=true:=by
 unfold right paired PLACES
 rw [List.length_replicate,decide_eq_true (by omega),Bool.true_and]
 induction n with
 |zero=>rfl
 |succ n ih=>
  rw [List.replicate_succ,scan,if_pos rfl]
  exact ih (by omega)
theorem put_eq (g:Gath) (k p last0 q:Nat) (u:Text):(match putAt q u with
   | .error e=> .error e
   | .ok (w,q,u)=>if right w=true/\w≠ [] then .ok (({g with puts:=g.puts.set k w},2*k+1),q,u) else .error p:Rd (Gath×Nat))=
  match charAt PLUS q u with
  | .error e=> .error e
  | .ok (_,q,u)=>match putIn q u with
   | .error e=> .error e
   | .ok (ow,q,u)=>if (ow.getD []).isEmpty=true then .error p else .ok (({g with puts:=g.puts.set k (ow.getD [])},2*k+1),q,u):=by
 unfold putAt
 cases charAt PLUS q u with
 |error e=>rfl
 |ok y=>
  obtain ⟨_,q1,u1⟩:=y
  dsimp only
  cases u1 with
  |nil=>rfl
  |cons x v=>
   dsimp only
   unfold putIn
   dsimp only
   by_cases hx:x=LANGLE
   ·rw [if_pos hx,if_pos hx]
    cases signsAt (q1+1) v with
    |error e=>rfl
    |ok z=>
     obtain ⟨wd,q2,u2⟩:=z
     dsimp only
     unfold goodW
     cases hc:counted wd
     ·cases hw:wd.isEmpty
      ·cases hr:right wd
       ·rw [if_neg (by simp [hr])]
        simp
       ·have hne:wd≠ []:=fun z=>by rw [z] at hw;cases hw
        rw [if_pos (by simp [hr,hne])]
        simp [hw]
      ·have he:wd= []:=List.isEmpty_iff.mp hw
       rw [if_neg (by simp [he])]
       simp
     ·simp
   ·rw [if_neg hx,if_neg hx]
    cases number digit q1 (x::v) with
    |error e=>rfl
    |ok z=>
     obtain ⟨n,q2,u2⟩:=z
     dsimp only
     by_cases h9:n<=9
     ·rw [if_pos h9]
      cases n with
      |zero=>simp
      |succ n=>
       have h1:1<=n+1/\n+1<=9:=by omega
       rw [if_pos h1,if_pos ⟨right_rep _ h9,by simp [List.replicate_succ]⟩]
       simp [List.replicate_succ]
     ·have h1:¬(1<=n/\n<=9):=by omega
      rw [if_neg h9,if_neg h1]
      simp
theorem note_eq (g:Gath) (last p:Nat) (l:Text):noteAt g last p l=match l with
 | []=> .error p
 |c::r=>if c=MINUS then leafNote g last p false r else if c=OVER then leafNote g last p true r else gapNote g last p (c::r):=by
 unfold noteAt
 cases l with
 |nil=>rfl
 |cons c r=>
  unfold headAt
  dsimp only
  by_cases h1:c=MINUS
  ·rw [if_pos h1,if_pos h1]
   unfold leafNote
   cases number digit (p+1) r with
   |error e=>rfl
   |ok y=>
    obtain ⟨k,q,u⟩:=y
    rfl
  ·rw [if_neg h1,if_neg h1]
   by_cases h2:c=OVER
   ·rw [if_pos h2,if_pos h2]
    unfold leafNote
    cases number digit (p+1) r with
    |error e=>rfl
    |ok y=>
     obtain ⟨k,q,u⟩:=y
     rfl
   ·rw [if_neg h2,if_neg h2]
    unfold gapNote
    cases number digit p (c::r) with
    |error e=>rfl
    |ok y=>
     obtain ⟨k,q,u⟩:=y
     dsimp only
     rw [←put_eq g k p last]
     rfl
theorem goodW_len {w:Word} (h:goodW w=true):w.length<=21:=by
 unfold goodW right PLACES at h
 simp only [Bool.and_eq_true,decide_eq_true_eq] at h
 exact h.2.2.1
theorem putIn_len {p:Nat} {l:Text} {w:Word} {q:Nat} {u:Text} (h:putIn p l= .ok (some w,q,u)):w.length<=21:=by
 unfold putIn at h
 cases l with
 |nil=>cases h
 |cons x v=>
  dsimp only at h
  split at h
  ·cases hs:signsAt (p+1) v with
   |error e=>rw [hs] at h;cases h
   |ok z=>
    obtain ⟨wd,q2,u2⟩:=z
    rw [hs] at h
    dsimp only at h
    split at h
    ·rename_i hg
     cases h
     exact goodW_len hg
    ·cases h
  ·cases hs:number digit p (x::v) with
   |error e=>rw [hs] at h;cases h
   |ok z=>
    obtain ⟨n,q2,u2⟩:=z
    rw [hs] at h
    dsimp only at h
    split at h
    ·cases h
     rw [List.length_replicate]
     omega
    ·cases h
theorem WF.leaf {g:Gath} (wf:WF g) (k:Nat) (f:Fate):WF {g with fates:=g.fates.set k f}:=⟨by simp [wf.fl],wf.pl,wf.sz,wf.wl⟩
theorem WF.put {g:Gath} (wf:WF g) (k:Nat) (w:Word) (h:w.length<=21):WF {g with puts:=g.puts.set k w}:=
 ⟨wf.fl,by simp [wf.pl],wf.sz,fun x hx=>by
  rcases List.mem_or_eq_of_mem_set hx with z|z
  ·exact wf.wl x z
  ·rw [z];exact h⟩
end Q
namespace Q
open PySem PySem.Spec PyProof.Rows L2 XL
open Quire (Sign Word Sig Gath Fate)
open QuireCopies (Line)
def FrL (S:List Addr) (H H':Hp):Prop:=∀b o,H b=some o->b∉S->H' b=some o
theorem FrL.trans {S:List Addr} {H H1 H2:Hp} (x:FrL S H H1) (y:FrL S H1 H2):FrL S H H2:=fun b o e n=>y b o (x b o e n) n
theorem FrL.refl {S:List Addr} {H:Hp}:FrL S H H:=fun _ _ e _=>e
theorem FrL.of_same {S:List Addr} {H H':Hp} (s:Same H H'):FrL S H H':=fun b o e _=>s b o e
theorem FrL.of_fr {S:List Addr} {c:Addr} {H H':Hp} (x:Fr c H H') (h:c∈S):FrL S H H':=fun b o e n=>x b o e fun z=>n (z▸h)
theorem FrL.mono {S S':List Addr} {H H':Hp} (x:FrL S H H') (h:∀b∈S,b∈S'):FrL S' H H':=fun b o e n=>x b o e fun z=>n (h b z)
theorem FrL.seq {S:List Addr} {H H':Hp} {K:W.Frag} {ch:Addr} {xs:List V} (x:FrL S H H') (n:ch∉S) (h:SqL K H ch xs):SqL K H' ch xs:=by
 rcases h with (h|⟨ob,h⟩)|h
 ·exact .inl (.inl (x _ _ h n))
 ·exact .inl (.inr ⟨ob,x _ _ h n⟩)
 ·exact .inr h
def Sep (K:W.Frag) (ch:Addr) (S:List Addr) (t:List Nat):Prop:=(∀b∈S,ch≠b)∨∀H',SqL K H' ch (txV t)
theorem FrL.sep {K:W.Frag} {S:List Addr} {H H':Hp} {ch:Addr} {t:List Nat} (x:FrL S H H') (n:Sep K ch S t) (h:SqL K H ch (txV t)):SqL K H' ch (txV t):=by
 rcases n with n|n
 ·exact x.seq (fun m=>n ch m rfl) h
 ·exact n H'
theorem Sep.of {K:W.Frag} {H:Hp} {ch:Addr} {S:List Addr} {t:List Nat} (h:SqL K H ch (txV t)) (n:∀b∈S,H b=none∨∃o,H b=some o/\(∀xs,o≠ .lst xs)/\∀ob u,o≠ .frz ob u):Sep K ch S t:=by
 rcases h with (h|⟨ob,h⟩)|h
 ·refine .inl fun b m e=>?_
  rcases n b m with q|⟨o,q,q2,_⟩
  ·rw [←e,h] at q;cases q
  ·rw [←e,h] at q;injection q with q;exact q2 _ q.symm
 ·refine .inl fun b m e=>?_
  rcases n b m with q|⟨o,q,_,q2⟩
  ·rw [←e,h] at q;cases q
  ·rw [←e,h] at q;injection q with q;exact q2 _ _ q.symm
 ·exact .inr fun H'=> .inr h
theorem Sep.mono {K:W.Frag} {ch:Addr} {S S':List Addr} {t:List Nat} (h:Sep K ch S t) (m:∀b∈S',b∈S):Sep K ch S' t:=by
 rcases h with h|h
 ·exact .inl fun b q=>h b (m b q)
 ·exact .inr h
theorem Sep.and {K:W.Frag} {ch:Addr} {S S':List Addr} {t:List Nat} (h:Sep K ch S t) (h':Sep K ch S' t):Sep K ch (S++S') t:=by
 rcases h with h|h
 ·rcases h' with h'|h'
  ·exact .inl fun b q=>(List.mem_append.mp q).elim (h b) (h' b)
  ·exact .inr h'
 ·exact .inr h
def Avoid (z gp:Addr) (H:Hp):Prop:=∀gs:List Addr,H gp=some (.lst (gs.map V.ref))->z∉gs
def KeepG (lv gp:Addr) (H H':Hp):Prop:=∀(z:Addr) (zs:List Addr),H z=some (.lst (zs.map V.ref))->z≠lv->z≠gp->Avoid z gp H->Avoid z gp H'
theorem KeepG.of_eq {lv gp:Addr} {H H':Hp} (h:H' gp=H gp):KeepG lv gp H H':=fun z zs _ _ _ x gs e=>x gs (by rw [←h];exact e)
theorem KeepG.trans {lv gp c:Addr} {H H1 H2:Hp} {C dx:Addr} {fs:List (Str×V)} (x:KeepG lv gp H H1) (y:KeepG lv gp H1 H2) (f:FrL [c,lv,gp] H H1) (hc:H c=some (.ins C dx fs)):KeepG lv gp H H2:=fun z zs e n1 n2 av=>
 y z zs (f z _ e (by simp only [List.mem_cons,List.not_mem_nil,or_false,not_or];exact ⟨(fun q=>by rw [q,hc] at e;cases e),n1,n2⟩)) n1 n2 (x z zs e n1 n2 av)
theorem KeepG.of_fr {lv gp c:Addr} {H H':Hp} {o:HO} (f:Fr c H H') (n:gp≠c) (h:H gp=some o):KeepG lv gp H H':= .of_eq (by rw [f _ _ h n,h])
theorem KeepG.of_same {lv gp:Addr} {H H':Hp} {o:HO} (s:Same H H') (h:H gp=some o):KeepG lv gp H H':= .of_eq (by rw [s _ _ h,h])
theorem mem_set {α:Type} {x y:α}:∀{l:List α} {k:Nat},x∈l.set k y->x∈l∨x=y
 | [],_,h=>nomatch h
 |a::l,0,h=>by
  rw [List.set_cons_zero] at h
  rcases List.mem_cons.mp h with e|e
  ·exact .inr e
  ·exact .inl (List.mem_cons_of_mem _ e)
 |a::l,k+1,h=>by
  rw [List.set_cons_succ] at h
  rcases List.mem_cons.mp h with e|e
  ·exact .inl (e▸List.mem_cons_self ..)
  ·rcases mem_set e with e|e
   ·exact .inl (List.mem_cons_of_mem _ e)
   ·exact .inr e
theorem refs_inj:∀{l m:List Addr},l.map V.ref=m.map V.ref->l=m
 | [],[],_=>rfl
 | [],_::_,h=>by cases h
 |_::_,[],h=>by cases h
 |x::l,y::m,h=>by
  injection h with h1 h2
  injection h1 with h1
  rw [h1,refs_inj h2]
def DoesQ (a:Adr) (c ch q sg lv gp:Addr) (e:Nat) (H:Hp) (E:XK) (r:Quire.Rd (Gath×Nat)) (k:Nat->Hp->Prop):Prop:=match r with
 | .error x=>Rz a E x
 | .ok ((g,l),z,_)=>∀H',CurAt a H' c ch z e->QAt a H' q sg lv gp g->FrL [c,lv,gp] H H'->KeepG lv gp H H'->k l H'
def lastOf (b:Option Nat):Nat:=match b with
 |none=>0
 |some r=>r+1
section
variable {a:Adr} {H:Hp} {q sg lv gp:Addr} {g:Gath}
theorem QAt.apart (h:QAt a H q sg lv gp g) (wf:WF g):lv≠gp/\(∀c ch p e,CurAt a H c ch p e->c≠lv/\c≠gp/\c≠sg)/\q≠lv/\q≠gp/\sg≠lv/\sg≠gp:=by
 obtain ⟨⟨dx,h1⟩,h2,h3,gs,h4,h5⟩:=h
 have sz:=size_le wf.sz
 refine ⟨fun z=>?_,fun c ch p e ⟨d,hc⟩=>⟨fun z=>?_,fun z=>?_,fun z=>?_⟩,fun z=>?_,fun z=>?_,fun z=>?_,fun z=>?_⟩
 ·rw [z,h4] at h3
  injection h3 with h3
  injection h3 with h3
  have fl:=wf.fl
  cases hf:g.fates with
  |nil=>rw [hf] at fl;simp at fl;omega
  |cons f r=>
   rw [hf] at h3
   cases gs with
   |nil=>cases h3
   |cons b t=>
    injection h3 with h3 _
    cases f<;>cases h3
 ·rw [z,h3] at hc;cases hc
 ·rw [z,h4] at hc;cases hc
 ·rw [z,h2] at hc;cases hc
 ·rw [z,h3] at h1;cases h1
 ·rw [z,h4] at h1;cases h1
 ·rw [z,h3] at h2;cases h2
 ·rw [z,h4] at h2;cases h2
theorem wd_ne_lv (wf:WF g) {wd:Word}:wdV wd≠g.fates.map ftV:=fun z=>by
 have sz:=size_le wf.sz
 have fl:=wf.fl
 cases hf:g.fates with
 |nil=>rw [hf] at fl;simp at fl;omega
 |cons f r=>
  rw [hf] at z
  cases wd with
  |nil=>cases z
  |cons s t=>
   injection z with z _
   cases f<;>cases s<;>cases z
theorem wd_ne_gp {gs:List Addr} {wd:Word} (hg:gs≠ []):wdV wd≠gs.map V.ref:=fun z=>by
 cases gs with
 |nil=>exact hg rfl
 |cons b t=>
  cases wd with
  |nil=>cases z
  |cons s r=>
   injection z with z _
   cases z
theorem QAt.leaf (h:QAt a H q sg lv gp g) (wf:WF g) (k:Nat) (f:Fate):QAt a (upd H lv (.lst ((g.fates.map ftV).set k (ftV f)))) q sg lv gp {g with fates:=g.fates.set k f}:=by
 obtain ⟨n1,n2,n3,n4,n5,n6⟩:=h.apart wf
 obtain ⟨⟨dx,h1⟩,h2,h3,gs,h4,h5⟩:=h
 refine ⟨⟨dx,by rw [upd_ne n3];exact h1⟩,by rw [upd_ne n5];exact h2,by rw [upd_same,List.map_set],gs,by rw [upd_ne (Ne.symm n1)];exact h4,R.paired_imp (fun w b hb=>?_) h5⟩
 rw [upd_ne (fun z=>by rw [z,h3] at hb;injection hb with hb;injection hb with hb;exact wd_ne_lv wf hb.symm)]
 exact hb
theorem paired_set {F G:Word->Addr->Prop} {w:Word} {b:Addr} (h:G w b) (i:∀w b,F w b->G w b):∀{ws:List Word} {bs:List Addr} (k:Nat),Paired F ws bs->Paired G (ws.set k w) (bs.set k b)
 |_,_,_,.nil=> .nil
 |_,_,0,.cons _ t=> .cons h (R.paired_imp i t)
 |_,_,k+1,.cons e t=> .cons (i _ _ e) (paired_set h i k t)
theorem QAt.gap (h:QAt a H q sg lv gp g) (wf:WF g) {gs:List Addr} (hg:H gp=some (.lst (gs.map V.ref))) (k:Nat) {b:Addr} {w:Word} (hb:H b=some (.lst (wdV w))):QAt a (upd H gp (.lst ((gs.map V.ref).set k (.ref b)))) q sg lv gp {g with puts:=g.puts.set k w}:=by
 obtain ⟨n1,n2,n3,n4,n5,n6⟩:=h.apart wf
 obtain ⟨⟨dx,h1⟩,h2,h3,gs',h4,h5⟩:=h
 have e:gs'=gs:=by
  rw [hg] at h4
  injection h4 with h4
  injection h4 with h4
  have inj:∀(l m:List Addr),l.map V.ref=m.map V.ref->l=m:=by
   intro l
   induction l with
   |nil=>intro m h;cases m with
    |nil=>rfl
    |cons _ _=>cases h
   |cons x l ih=>intro m h;cases m with
    |nil=>cases h
    |cons y m=>
     injection h with h1 h2
     injection h1 with h1
     rw [h1,ih m h2]
  exact (inj _ _ h4).symm
 subst e
 have gne:gs'≠ []:=fun z=>by
  have:=paired_len h5
  rw [z,wf.pl] at this
  simp at this
 have keep:∀w b,H b=some (.lst (wdV w))->(upd H gp (.lst ((gs'.map V.ref).set k (.ref b)))) b=some (.lst (wdV w))∨True:=fun _ _ _=> .inr trivial
 have stay:∀(x:HO) (w:Word) (b:Addr),H b=some (.lst (wdV w))->(upd H gp x) b=some (.lst (wdV w)):=fun x w b hb=>by
  rw [upd_ne (fun z=>by rw [z,h4] at hb;injection hb with hb;injection hb with hb;exact wd_ne_gp gne hb.symm)]
  exact hb
 refine ⟨⟨dx,by rw [upd_ne n4];exact h1⟩,by rw [upd_ne n6];exact h2,by rw [upd_ne n1];exact h3,gs'.set k b,by rw [upd_same,List.map_set],paired_set (stay _ _ _ hb) (fun w b h=>stay _ _ _ h) k h5⟩
end
section
variable {P:Program} {w:World} {K:W.Frag} {mg:Str->Option Value} {base:Heap} {a:Adr}
theorem QAt.fr {H H':Hp} {c q sg lv gp:Addr} {g:Gath} (h:QAt a H q sg lv gp g) (x:Fr c H H') {ch:Addr} {p e:Nat} (hc:CurAt a H c ch p e) (nq:q≠c) (wf:WF g):QAt a H' q sg lv gp g:=by
 obtain ⟨n1,n2,n3,n4,n5,n6⟩:=h.apart wf
 obtain ⟨m1,m2,m3⟩:=n2 c ch p e hc
 obtain ⟨⟨dx,h1⟩,h2,h3,gs,h4,h5⟩:=h
 obtain ⟨dc,hc⟩:=hc
 refine ⟨⟨dx,x _ _ h1 nq⟩,x _ _ h2 (Ne.symm m3),x _ _ h3 (Ne.symm m1),gs,x _ _ h4 (Ne.symm m2),R.paired_imp (fun w b hb=>x _ _ hb fun z=>by rw [z,hc] at hb;cases hb) h5⟩
theorem QAt.same {H H':Hp} {q sg lv gp:Addr} {g:Gath} (h:QAt a H q sg lv gp g) (s:Same H H'):QAt a H' q sg lv gp g:=by
 obtain ⟨⟨dx,h1⟩,h2,h3,gs,h4,h5⟩:=h
 exact ⟨⟨dx,s _ _ h1⟩,s _ _ h2,s _ _ h3,gs,s _ _ h4,R.paired_imp (fun _ _ hb=>s _ _ hb) h5⟩
theorem QAt.is {H:Hp} {q sg lv gp:Addr} {g:Gath} (h:QAt a H q sg lv gp g):QIs a H q g:=⟨sg,lv,gp,h⟩
theorem ord_ok (b:Option Nat) (n:Nat) (hn:1<=n):(inOrd b (2*(n:Int) - 1))=decide (¬(2*n - 1+1<=lastOf b)):=by
 cases b with
 |none=>
  rw [decide_eq_true (show ¬(2*n - 1+1<=lastOf none) by show ¬(2*n - 1+1<=0);omega)]
  rfl
 |some m=>
  by_cases h:m+1 < 2*n
  ·rw [decide_eq_true (show ¬(2*n - 1+1<=lastOf (some m)) by show ¬(2*n - 1+1<=m+1);omega)]
   exact decide_eq_true (by omega)
  ·rw [decide_eq_false (show ¬ ¬(2*n - 1+1<=lastOf (some m)) by show ¬ ¬(2*n - 1+1<=m+1);omega)]
   exact decide_eq_false (by omega)
def spLN (a:Adr) (K:W.Frag):Sp:=fun vs H Q E=>∃c ch q sg lv gp,∃p e:Nat,∃t g b ct,vs= [.ref c,.ref q,rkV b,stV ct]/\CurAt a H c ch p e/\SqL K H ch (txV t)/\Sep K ch [lv,gp] t/\e<=t.length/\p < e/\QAt a H q sg lv gp g/\WF g/\q≠c/\
 DoesQ a c ch q sg lv gp e H E (leafNote g (lastOf b) p ct (rest t (p+1) e)) fun l H'=>Q (.int ((l:Int) - 1)) H'
theorem ok_18 (T:Txt K mg a):FnOk P w K mg base (CXd P w) 4 a.f_18 a.d_18 ["cursor","quire","before","state"] (spLN a K):=by
 refine okX T.u_18 sc_18 (fun vs H Q E h=>?_) (fun cdv A outer s H vs Q E hr h=>?_)
 ·obtain ⟨_,_,_,_,_,_,_,_,_,_,_,_,rfl,_⟩:=h;rfl
 ·obtain ⟨c,ch,q,sg,lv,gp,p,e,t,g,b,ct,rfl,⟨dx,hc⟩,hs,sep,he,hpe,hQ,wf,nq,k⟩:=h
  have sz:=size_le wf.sz
  refine ⟨_,(pss_cons (ps_set (i:=4) sc_18.nd rfl (Or.inl rfl) (pe_fld (pv 0) rfl)) (pss_cons (ps_expr (pe_meth0 (pv 0) T.cl_150 T.me_43 (ok_43 T) (rm hr) (b_43 T) .nil passN)) (pss_cons (ps_set (i:=5) sc_18.nd rfl (Or.inl rfl) (pe_call (ok_54 T) (rm hr) rfl T.m_54 T.u_54.kp (b_54 T) .nil passD (pa_cons (pv 0) (pa_cons (g_151 T) pa_nil)))) (pss_cons (ps_set (i:=6) sc_18.nd rfl (Or.inl rfl) (pe_op op_sub (pe_op op_mul pe_int (pv 5)) pe_int)) (pss_cons (ps_if (PW.pt (pw_or (pt_not (pt_chain op_le op_le pe_int (pv 5) (pe_fld (pv 1) rfl) rfl)) (pw_or (pt_not (pt_truth (pe_call (ok_50 T) (rm hr) rfl T.m_50 T.u_50.kp (b_50 T) .nil passN (pa_cons (pv 2) (pa_cons (pv 6) pa_nil))) (fun _=>rfl))) (pw_or1 (pt_not (pt_truth (pe_call (ok_68 T) (rm hr) rfl T.m_68 T.u_68.kp (b_68 T) .nil passN (pa_cons (pv 1) (pa_cons (pv 5) (pa_cons (pv 3) pa_nil)))) (fun _=>rfl))))))) (pss_one (ps_raise T.xc_76 (ok_15 T) (rm hr) rfl T.m_76 (b_15 T) passD (pa_cons (pv 4) pa_nil))) pss_nil) (pss_cons (ps_asg (pv 3) (pg_sub (pe_fld (pv 1) rfl) (pe_op op_sub (pv 5) pe_int) set_list)) (pss_one (ps_ret (pv 6))))))))),?_⟩
  walk_at "go0"
  refine ⟨c,ch,p,e,rfl,⟨dx,hc⟩,fun H1 hc1 (fr1:Fr c H H1)=>?_⟩
  have hs1:=fr1.seqC ⟨dx,hc⟩ hs
  have hQ1:=hQ.fr fr1 ⟨dx,hc⟩ nq wf
  walk_at "go"
  refine ⟨c,ch,_,_,p+1,e,t,rfl,hc1,hs1,he,.dig,?_⟩
  unfold leafNote at k
  rw [QM.digit_eq] at k
  cases hr2:Quire.number (fun n=>QM.DIG.idxOf? n) (p+1) (rest t (p+1) e) with
  |error x=>rw [hr2] at k;exact k
  |ok y=>
   obtain ⟨n,z,u⟩:=y
   rw [hr2] at k
   dsimp only at k
   intro H2 hc2 fr2
   have hQ2:=hQ1.fr fr2 hc1 nq wf
   obtain ⟨⟨dq,hq2⟩,hsg2,hlv2,gs,hgp2,hgs2⟩:=id hQ2
   have fr12:=fr1.trans fr2
   walk_at "go"
   refine R.iC (.inl ⟨by decide,by decide⟩) ?_
   walk_at "go"
   have ord:=fun hn=>ord_ok b n hn
   refine R.es (b:= !decide ((1:Int)<=(n:Int)/\(n:Int)<=(g.size:Int))||(!(inOrd b (2*(n:Int) - 1))|| !(if ct then Quire.cutOk g (n - 1) else g.fate (g.partner (n - 1)) != .cut)))
    (R.Esor (R.Ev.es (R.Evnot (R.Etest (R.Echain ?_ ?_ ?_)))) fun hb1 H3 s3=>R.Esor (R.Esnot ?_) fun _ H4 s4=>R.Esnot ?_) fun H3 s3=>?_
   ·walk_at "eve"
   ·walk_at "eve"
   ·walk_at "eve"
   ·intro Qb q2
    walk_at "go"
    exact ⟨b,_,rfl,R.truB (q2 H3 (Same.refl _))⟩
   ·intro Qb q2
    rw [Bool.not_eq_false',decide_eq_true_eq] at hb1
    walk_at "go"
    exact ⟨q,g,n,ct,rfl,(hQ2.is.same s3).same s4,wf,by omega,by omega,R.truB (q2 H4 (Same.refl _))⟩
   ·refine R.bbif (fun h=>?_) (fun h=>?_)<;>walk_at "go"
    ·have h5:2*n - 1+1<=lastOf b∨(decide (1<=n)&&(decide (n<=g.size)&&(if ct then Quire.cutOk g (n - 1) else g.fate (g.partner (n - 1)) != .cut)))=false:=by
      by_cases hn:1<=n/\n<=g.size
      ·rw [decide_eq_true (by omega)] at h
       rw [ord hn.1] at h
       by_cases hl:2*n - 1+1<=lastOf b
       ·exact .inl hl
       ·rw [decide_eq_true hl] at h
        right
        rw [decide_eq_true hn.1,decide_eq_true hn.2]
        simpa using h
      ·right
       rw [Bool.and_eq_false_iff,Bool.and_eq_false_iff,decide_eq_false_iff_not,decide_eq_false_iff_not]
       omega
     rw [if_pos h5] at k
     exact ⟨_,rfl,fun dx2 hd=>k _ _ upd_same⟩
    ·have h5:¬(2*n - 1+1<=lastOf b∨(decide (1<=n)&&(decide (n<=g.size)&&(if ct then Quire.cutOk g (n - 1) else g.fate (g.partner (n - 1)) != .cut)))=false)/\1<=n/\n<=g.size:=by
      rw [Bool.or_eq_false_iff,Bool.or_eq_false_iff,Bool.not_eq_false',Bool.not_eq_false',Bool.not_eq_false',decide_eq_true_eq] at h
      obtain ⟨h6,h7,h8⟩:=h
      have hn:1<=n/\n<=g.size:=by omega
      refine ⟨?_,hn⟩
      rintro (hz|hz)
      ·rw [ord hn.1,decide_eq_true_eq] at h7
       exact h7 hz
      ·rw [decide_eq_true hn.1,decide_eq_true hn.2,h8] at hz
       cases hz
     obtain ⟨h5,hn1,hn2⟩:=h5
     rw [if_neg h5] at k
     have hQ3:=hQ2.same s3
     obtain ⟨⟨dq3,hq3⟩,hsg3,hlv3,gs3,hgp3,hgs3⟩:=id hQ3
     walk_at "go"
     refine R.setl hlv3 (j:=n - 1) ?_ (by rw [List.length_map,wf.fl];omega) ?_
     ·omega
     walk_at "go"
     obtain ⟨n1,n2,n3,n4,n5,n6⟩:=hQ3.apart wf
     have hc3:CurAt a H3 c ch z e:=by obtain ⟨d2,hc2⟩:=hc2;exact ⟨d2,s3 _ _ hc2⟩
     obtain ⟨m1,m2,m3⟩:=n2 c ch z e hc3
     have est:stV ct=ftV (if ct then .cut else .lost):=by cases ct<;>rfl
     have hQ4:=hQ3.leaf wf (n - 1) (if ct then .cut else .lost)
     rw [←est] at hQ4
     have k2:=k _ ?_ hQ4 ?_ ?_
     ·have e5:(((2*n - 1+1:Nat):Int) - 1)=2*(n:Int) - 1:=by omega
      dsimp only at k2
      rw [e5] at k2
      exact k2
     ·obtain ⟨d3,hc3⟩:=hc3
      exact ⟨d3,by rw [upd_ne m1];exact hc3⟩
     ·intro b o hb nb
      simp only [List.mem_cons,List.not_mem_nil,or_false,not_or] at nb
      rw [upd_ne nb.2.1]
      exact s3 _ _ (fr12 b o hb nb.1)
     ·obtain ⟨_,_,_,gs0,hgp0,_⟩:=id hQ
      refine KeepG.of_eq ?_
      rw [upd_ne (Ne.symm n1),hgp0]
      exact s3 _ _ (fr12 _ _ hgp0 (Ne.symm m2))
def spGN (a:Adr) (K:W.Frag):Sp:=fun vs H Q E=>∃c ch q sg lv gp,∃p e:Nat,∃t g b,vs= [.ref c,.ref q,rkV b]/\CurAt a H c ch p e/\SqL K H ch (txV t)/\Sep K ch [lv,gp] t/\e<=t.length/\t.length<=30000/\QAt a H q sg lv gp g/\WF g/\q≠c/\
 DoesQ a c ch q sg lv gp e H E (gapNote g (lastOf b) p (rest t p e)) fun l H'=>Q (.int ((l:Int) - 1)) H'
theorem ord_ok2 (b:Option Nat) (n:Nat):inOrd b (2*(n:Int))=decide (¬(2*n+1<=lastOf b)):=by
 cases b with
 |none=>
  rw [decide_eq_true (show ¬(2*n+1<=lastOf none) by show ¬(2*n+1<=0);omega)]
  rfl
 |some m=>
  by_cases h:m < 2*n
  ·rw [decide_eq_true (show ¬(2*n+1<=lastOf (some m)) by show ¬(2*n+1<=m+1);omega)]
   exact decide_eq_true (by omega)
  ·rw [decide_eq_false (show ¬ ¬(2*n+1<=lastOf (some m)) by show ¬ ¬(2*n+1<=m+1);omega)]
   exact decide_eq_false (by omega)
theorem ok_34 (T:Txt K mg a):FnOk P w K mg base (CXd P w) 6 a.f_34 a.d_34 ["cursor","quire","before"] (spGN a K):=by
 refine okX T.u_34 sc_34 (fun vs H Q E h=>?_) (fun cdv A outer s H vs Q E hr h=>?_)
 ·obtain ⟨_,_,_,_,_,_,_,_,_,_,_,rfl,_⟩:=h;rfl
 ·obtain ⟨c,ch,q,sg,lv,gp,p,e,t,g,b,rfl,⟨dx,hc⟩,hs,sep,he,htl,hQ,wf,nq,k⟩:=h
  have sz:=size_le wf.sz
  refine ⟨_,(pss_cons (ps_set (i:=3) sc_34.nd rfl (Or.inl rfl) (pe_fld (pv 0) rfl)) (pss_cons (ps_set (i:=4) sc_34.nd rfl (Or.inl rfl) (pe_call (ok_54 T) (rm hr) rfl T.m_54 T.u_54.kp (b_54 T) .nil passD (pa_cons (pv 0) (pa_cons (g_151 T) pa_nil)))) (pss_cons (ps_set (i:=5) sc_34.nd rfl (Or.inl rfl) (pe_op op_mul pe_int (pv 4))) (pss_cons (ps_if (PW.pt (pw_or (pt_cmpR op_gt (pv 4) (pe_fld (pv 1) rfl) (nomark _)) (pw_or1 (pt_not (pt_truth (pe_call (ok_50 T) (rm hr) rfl T.m_50 T.u_50.kp (b_50 T) .nil passN (pa_cons (pv 2) (pa_cons (pv 5) pa_nil))) (fun _=>rfl)))))) (pss_one (ps_raise T.xc_76 (ok_15 T) (rm hr) rfl T.m_76 (b_15 T) passD (pa_cons (pv 3) pa_nil))) pss_nil) (pss_cons (ps_expr (pe_meth (pv 0) T.cl_150 T.me_44 (ok_44 T) (rm hr) (b_44 T) .nil passD (pa_cons (g_167 T) pa_nil))) (pss_cons (ps_set (i:=6) sc_34.nd rfl (Or.inl rfl) (pe_call (ok_55 T) (rm hr) rfl T.m_55 T.u_55.kp (b_55 T) .nil passD (pa_cons (pv 0) pa_nil))) (pss_cons (ps_if (pt_not (pt_truth (pv 6) (fun _=>rfl))) (pss_one (ps_raise T.xc_76 (ok_15 T) (rm hr) rfl T.m_76 (b_15 T) passD (pa_cons (pv 3) pa_nil))) pss_nil) (pss_cons (ps_asg (pv 6) (pg_sub (pe_fld (pv 1) rfl) (pv 4) set_list)) (pss_one (ps_ret (pv 5))))))))))),?_⟩
  walk_at "go0"
  refine ⟨c,ch,_,_,p,e,t,rfl,⟨dx,hc⟩,hs,he,.dig,?_⟩
  unfold gapNote at k
  rw [QM.digit_eq] at k
  have eat:=QM.eats_number (fun n=>QM.DIG.idxOf? n) p (rest t p e)
  cases hr2:Quire.number (fun n=>QM.DIG.idxOf? n) p (rest t p e) with
  |error x=>rw [hr2] at k;exact k
  |ok y=>
   obtain ⟨n,z,u⟩:=y
   obtain ⟨rfl,pz,_⟩:=eats_rest he eat hr2
   rw [hr2] at k
   dsimp only at k
   intro H2 hc2 (fr2:Fr c H H2)
   have hQ2:=hQ.fr fr2 ⟨dx,hc⟩ nq wf
   have hs2:=fr2.seqC ⟨dx,hc⟩ hs
   obtain ⟨⟨dq,hq2⟩,hsg2,hlv2,gs,hgp2,hgs2⟩:=id hQ2
   walk_at "go"
   refine R.iC (.inl ⟨by decide,by decide⟩) ?_
   walk_at "go"
   refine R.es (b:=decide ((g.size:Int) < (n:Int))|| !inOrd b (2*(n:Int))) (R.Esor (R.Ev.es ?_) fun hb1 H3 s3=>R.Esnot ?_) fun H3 s3=>?_
   ·walk_at "ev"
   ·intro Qb q2
    walk_at "go"
    exact ⟨b,_,rfl,R.truB (q2 H3 (Same.refl _))⟩
   ·refine R.bbif (fun h=>?_) (fun h=>?_)<;>walk_at "go"
    ·have h5:2*n+1<=lastOf b∨decide (n<=g.size)=false:=by
      rw [ord_ok2,Bool.or_eq_true,decide_eq_true_eq,Bool.not_eq_true',decide_eq_false_iff_not] at h
      rw [decide_eq_false_iff_not]
      omega
     rw [if_pos h5] at k
     exact ⟨_,rfl,fun dx2 hd=>k _ _ upd_same⟩
    ·have h5:¬(2*n+1<=lastOf b∨decide (n<=g.size)=false)/\n<=g.size:=by
      rw [ord_ok2,Bool.or_eq_false_iff,decide_eq_false_iff_not,Bool.not_eq_false',decide_eq_true_eq] at h
      rw [decide_eq_false_iff_not]
      omega
     obtain ⟨h5,hn⟩:=h5
     rw [if_neg h5] at k
     have hc3:CurAt a H3 c ch z e:=by obtain ⟨d2,hc2⟩:=hc2;exact ⟨d2,s3 _ _ hc2⟩
     have hs3:=s3.seq hs2
     obtain ⟨d3,hc3'⟩:=id hc3
     walk_at "go"
     refine ⟨c,ch,z,e,t,Quire.PLUS,rfl,hc3,hs3,he,?_⟩
     have eat2:=QM.eats_char Quire.PLUS z (rest t z e)
     cases hr3:Quire.charAt Quire.PLUS z (rest t z e) with
     |error x=>rw [hr3] at k;exact k
     |ok y=>
      obtain ⟨_,z2,u2⟩:=y
      obtain ⟨rfl,pz2,_⟩:=eats_rest he eat2 hr3
      rw [hr3] at k
      dsimp only at k
      intro H4 hc4 (fr4:Fr c H3 H4)
      have hs4:=fr4.seqC hc3 hs3
      have hQ4:=(hQ2.same s3).fr fr4 hc3 nq wf
      walk_at "go"
      refine ⟨c,ch,z2,e,t,rfl,hc4,hs4,he,htl,?_⟩
      cases hr4:putIn z2 (rest t z2 e) with
      |error x=>rw [hr4] at k;exact k
      |ok y=>
       obtain ⟨ow,z3,u3⟩:=y
       rw [hr4] at k
       dsimp only at k
       intro H5 hc5 (fr5:Fr c H4 H5)
       have hQ5:=hQ4.fr fr5 hc4 nq wf
       have fr25:Fr c H H5:=((fr2.trans (Fr.of_same s3)).trans fr4).trans fr5
       have fault:∀H6:Hp,(ow.getD []).isEmpty=true->∃v,[V.int (p:Int)]= [v]/\∀dx,H6 dx=none->E (.ref a.c_76) (some dx) (upd H6 dx (.xd [("place",v)])):=fun H6 h6=>by
        rw [if_pos h6] at k
        exact ⟨_,rfl,fun dx2 hd=>k _ _ upd_same⟩
       cases ow with
       |none=>
        unfold outW
        dsimp only
        walk_at "go"
        refine R.truN ?_
        refine (if_pos rfl:_=_).mpr ?_
        walk_at "go"
        exact fault H5 rfl
       |some wd=>
        intro l hl
        walk_at "go"
        refine R.truL (SqL.of hl) ?_
        refine R.bbnif (fun h=>?_) (fun h=>?_)
        ·walk_at "go"
         exact fault H5 (by cases wd<;>first|rfl|(simp [wdV] at h))
        ·have hne:(((some wd).getD []).isEmpty)=false:=by cases wd<;>first|rfl|(simp [wdV] at h)
         rw [if_neg (by rw [hne];exact Bool.false_ne_true)] at k
         obtain ⟨⟨dq5,hq5⟩,hsg5,hlv5,gs5,hgp5,hgs5⟩:=id hQ5
         have gl:=paired_len hgs5
         obtain ⟨n1,n2,n3,n4,n5,n6⟩:=hQ5.apart wf
         obtain ⟨m1,m2,m3⟩:=n2 c ch z3 e hc5
         walk_at "go"
         refine R.setl hgp5 (j:=n) rfl (by rw [List.length_map,←gl,wf.pl];omega) ?_
         walk_at "go"
         have k2:=k _ ?_ (hQ5.gap wf hgp5 n hl) ?_ ?_
         ·have e5:(((2*n+1:Nat):Int) - 1)=2*(n:Int):=by omega
          dsimp only at k2
          rw [e5] at k2
          exact k2
         ·obtain ⟨d5,hc5⟩:=hc5
          exact ⟨d5,by rw [upd_ne m2];exact hc5⟩
         ·intro b o hb nb
          simp only [List.mem_cons,List.not_mem_nil,or_false,not_or] at nb
          rw [upd_ne nb.2.2]
          exact fr25 b o hb nb.1
         ·obtain ⟨_,_,_,gs0,hgp0,_⟩:=id hQ
          intro y ys hy ny1 ny2 av gs6 h6 my
          rw [upd_same] at h6
          injection h6 with h6
          injection h6 with h6
          have h7:(gs5.set n l).map V.ref=gs6.map V.ref:=by rw [List.map_set];exact h6
          rw [←refs_inj h7] at my
          rcases mem_set my with my|my
          ·have h8:=fr25 _ _ hgp0 (Ne.symm m2)
           rw [hgp5] at h8
           injection h8 with h8
           injection h8 with h8
           rw [refs_inj h8] at my
           exact av gs0 hgp0 my
          ·have nyc:y≠c:=fun q=>by rw [q,hc] at hy;cases hy
           have h9:=fr25 _ _ hy nyc
           rw [my,hl] at h9
           injection h9 with h9
           injection h9 with h9
           cases wd with
           |nil=>cases hne
           |cons s w=>cases ys<;>cases h9
end
end Q
namespace Q
open Quire QM
theorem eats_putIn (p:Nat) (l:Text):Eats p l (putIn p l):=by
 unfold putIn
 cases l with
 |nil=>exact trivial
 |cons x v=>
  dsimp only
  by_cases hx:x=LANGLE
  ·rw [if_pos hx]
   have h:=eats_signs v (p+1)
   cases hs:signsAt (p+1) v with
   |error e=>exact trivial
   |ok z=>
    obtain ⟨wd,q,u⟩:=z
    rw [hs] at h
    obtain ⟨k,h1,h2,h3⟩:=h
    exact ⟨k+1,by simp;omega,by omega,by rw [h3];rfl⟩
  ·rw [if_neg hx]
   have h:=eats_number digit p (x::v)
   cases hs:number digit p (x::v) with
   |error e=>exact trivial
   |ok z=>
    obtain ⟨n,q,u⟩:=z
    rw [hs] at h
    exact h
theorem eats_leaf (g:Gath) (last p:Nat) (ct:Bool) (l:Text):Eats (p+1) l (leafNote g last p ct l):=by
 unfold leafNote
 have h:=eats_number digit (p+1) l
 cases hs:number digit (p+1) l with
 |error e=>exact trivial
 |ok z=>
  obtain ⟨n,q,u⟩:=z
  rw [hs] at h
  dsimp only
  cases ct<;>simp only [Bool.false_eq_true,if_false,if_true]<;>split<;>first|exact trivial|exact h
theorem eats_gap (g:Gath) (last p:Nat) (l:Text):Eats p l (gapNote g last p l):=by
 unfold gapNote
 have h:=eats_number digit p l
 cases hs:number digit p l with
 |error e=>exact trivial
 |ok z=>
  obtain ⟨n,q,u⟩:=z
  rw [hs] at h
  obtain ⟨k,h1,h2,h3⟩:=h
  dsimp only
  split
  ·exact trivial
  ·refine Eats.more (α:=Unit) h1 h2 h3 ?_
   have h4:=eats_char PLUS q u
   cases hs2:charAt PLUS q u with
   |error e=>exact trivial
   |ok z=>
    obtain ⟨_,q2,u2⟩:=z
    rw [hs2] at h4
    obtain ⟨k,h1,h2,h3⟩:=h4
    refine Eats.more (α:=Unit) h1 h2 h3 ?_
    dsimp only
    have h5:=eats_putIn q2 u2
    cases hs3:putIn q2 u2 with
    |error e=>exact trivial
    |ok z=>
     obtain ⟨ow,q3,u3⟩:=z
     rw [hs3] at h5
     dsimp only
     split
     ·exact trivial
     ·exact h5
theorem eats_note (g:Gath) (last p:Nat) (l:Text):Eats p l (noteAt g last p l):=by
 rw [note_eq]
 cases l with
 |nil=>exact trivial
 |cons c r=>
  dsimp only
  split
  ·exact Eats.more (α:=Unit) (k:=1) (by simp) rfl rfl (eats_leaf g last p false r)
  ·split
   ·exact Eats.more (α:=Unit) (k:=1) (by simp) rfl rfl (eats_leaf g last p true r)
   ·exact eats_gap g last p (c::r)
theorem note_wf {g h:Gath} {last p l q:Nat} {t u:Text} (wf:WF g) (e:noteAt g last p t= .ok ((h,l),q,u)):WF h/\1<=l/\h.sig=g.sig/\h.size=g.size:=by
 rw [note_eq] at e
 have lf:∀ct r,leafNote g last p ct r= .ok ((h,l),q,u)->WF h/\1<=l/\h.sig=g.sig/\h.size=g.size:=by
  intro ct r e
  unfold leafNote at e
  cases hs:number digit (p+1) r with
  |error x=>rw [hs] at e;cases e
  |ok z=>
   obtain ⟨n,q,u⟩:=z
   rw [hs] at e
   dsimp only at e
   cases ct<;>simp only [Bool.false_eq_true,if_false,if_true] at e<;>split at e<;>first|(cases e;done)|(cases e;exact ⟨wf.leaf _ _,by omega,rfl,rfl⟩)
 cases t with
 |nil=>cases e
 |cons c r=>
  dsimp only at e
  split at e
  ·exact lf _ _ e
  ·split at e
   ·exact lf _ _ e
   ·unfold gapNote at e
    cases hs:number digit p (c::r) with
    |error x=>rw [hs] at e;cases e
    |ok z=>
     obtain ⟨n,q1,u1⟩:=z
     rw [hs] at e
     dsimp only at e
     split at e
     ·cases e
     ·cases hs2:charAt PLUS q1 u1 with
      |error x=>rw [hs2] at e;cases e
      |ok z=>
       obtain ⟨_,q2,u2⟩:=z
       rw [hs2] at e
       dsimp only at e
       cases hs3:putIn q2 u2 with
       |error x=>rw [hs3] at e;cases e
       |ok z=>
        obtain ⟨ow,q3,u3⟩:=z
        rw [hs3] at e
        dsimp only at e
        split at e
        ·cases e
        ·cases e
         refine ⟨wf.put _ _ ?_,by omega,rfl,rfl⟩
         cases ow with
         |none=>exact Nat.zero_le _
         |some wd=>exact putIn_len hs3
def tailN (f:Nat) (h:Gath) (l q:Nat) (u:Text):Rd Gath:=match u with
 | []=> .error q
 |c::v=>if c=RIGHT then .ok (h,q+1,v) else if c≠COMMA then .error q else match charAt BLANK (q+1) v with
  | .error e=> .error e
  | .ok (_,q,u)=>notesAt f h l q u
theorem notes_eq (f:Nat) (g:Gath) (last p:Nat) (t:Text):notesAt (f+1) g last p t=match noteAt g last p t with
 | .error e=> .error e
 | .ok ((h,l),q,u)=>tailN f h l q u:=by
 rw [notesAt]
 cases noteAt g last p t with
 |error e=>rfl
 |ok y=>
  obtain ⟨⟨h,l⟩,q,u⟩:=y
  rfl
end Q
namespace Q
open PySem PySem.Spec PyProof.Rows L2 XL
open Quire (Sign Word Sig Gath Fate)
open QuireCopies (Line)
section
variable {P:Program} {w:World} {K:W.Frag} {mg:Str->Option Value} {base:Heap} {a:Adr}
theorem FrL.seqC {H H':Hp} {c ch ch' lv gp:Addr} {p e:Nat} {t:List Nat} (x:FrL [c,lv,gp] H H') (hc:CurAt a H c ch' p e) (n:Sep K ch [lv,gp] t) (h:SqL K H ch (txV t)):SqL K H' ch (txV t):=by
 obtain ⟨dx,hc⟩:=hc
 have hS:∀b∈ [c],H b=none∨∃o,H b=some o/\(∀xs,o≠HO.lst xs)/\∀ob u,o≠HO.frz ob u:=by
  intro b m
  rw [List.mem_singleton] at m
  subst m
  exact .inr ⟨_,hc,(fun _ z=>nomatch z),fun _ _ z=>nomatch z⟩
 exact x.sep ((Sep.of h hS).and n) h
def spRN (a:Adr) (K:W.Frag):Sp:=fun vs H Q E=>∃c ch q sg lv gp,∃p e:Nat,∃t g b,vs= [.ref c,.ref q,rkV b]/\CurAt a H c ch p e/\SqL K H ch (txV t)/\Sep K ch [lv,gp] t/\e<=t.length/\t.length<=30000/\QAt a H q sg lv gp g/\WF g/\q≠c/\
 DoesQ a c ch q sg lv gp e H E (Quire.noteAt g (lastOf b) p (rest t p e)) fun l H'=>Q (.int ((l:Int) - 1)) H'
theorem ok_81 (T:Txt K mg a):FnOk P w K mg base (CXd P w) 7 a.f_81 a.d_81 ["cursor","quire","before"] (spRN a K):=by
 refine okX T.u_81 sc_81 (fun vs H Q E h=>?_) (fun cdv A outer s H vs Q E hr h=>?_)
 ·obtain ⟨_,_,_,_,_,_,_,_,_,_,_,rfl,_⟩:=h;rfl
 ·obtain ⟨c,ch,q,sg,lv,gp,p,e,t,g,b,rfl,⟨dx,hc⟩,hs,sep,he,htl,hQ,wf,nq,k⟩:=h
  refine ⟨_,(pss_cons (ps_if (pt_cmpR op_eq (pe_meth0 (pv 0) T.cl_150 T.me_42 (ok_42 T) (rm hr) (b_42 T) .nil passN) (g_156 T) (nomark _)) (pss_one (ps_ret (pe_call (ok_18 T) (rm hr) rfl T.m_18 T.u_18.kp (b_18 T) .nil passD (pa_cons (pv 0) (pa_cons (pv 1) (pa_cons (pv 2) (pa_cons (g_166 T) pa_nil))))))) pss_nil) (pss_cons (ps_if (pt_cmpR op_eq (pe_meth0 (pv 0) T.cl_150 T.me_42 (ok_42 T) (rm hr) (b_42 T) .nil passN) (g_152 T) (nomark _)) (pss_one (ps_ret (pe_call (ok_18 T) (rm hr) rfl T.m_18 T.u_18.kp (b_18 T) .nil passD (pa_cons (pv 0) (pa_cons (pv 1) (pa_cons (pv 2) (pa_cons (g_170 T) pa_nil))))))) pss_nil) (pss_one (ps_ret (pe_call (ok_34 T) (rm hr) rfl T.m_34 T.u_34.kp (b_34 T) .nil passD (pa_cons (pv 0) (pa_cons (pv 1) (pa_cons (pv 2) pa_nil)))))))),?_⟩
  rw [note_eq] at k
  walk_at "go0"
  refine R.eq_ scal_ch (R.bl (R.dif (fun h=>?_) (fun h=>?_)))<;>walk_at "go"
  ·have hn:nowC t p e=some Quire.MINUS:=(chV_eq (n:=Quire.MINUS)).mp h
   rw [rest_now hn] at k
   dsimp only at k
   rw [if_pos rfl] at k
   exact ⟨c,ch,q,sg,lv,gp,p,e,t,g,b,false,rfl,⟨dx,hc⟩,hs,sep,he,now_lt hn,hQ,wf,nq,k⟩
  ·have hn:¬nowC t p e=some Quire.MINUS:=fun z=>h ((chV_eq (n:=Quire.MINUS)).mpr z)
   refine R.eq_ scal_ch (R.bl (R.dif (fun h2=>?_) (fun h2=>?_)))<;>walk_at "go"
   ·have hn2:nowC t p e=some Quire.OVER:=(chV_eq (n:=Quire.OVER)).mp h2
    rw [rest_now hn2] at k
    dsimp only at k
    rw [if_neg (by decide),if_pos rfl] at k
    exact ⟨c,ch,q,sg,lv,gp,p,e,t,g,b,true,rfl,⟨dx,hc⟩,hs,sep,he,now_lt hn2,hQ,wf,nq,k⟩
   ·have hn2:¬nowC t p e=some Quire.OVER:=fun z=>h2 ((chV_eq (n:=Quire.OVER)).mpr z)
    refine ⟨c,ch,q,sg,lv,gp,p,e,t,g,b,rfl,⟨dx,hc⟩,hs,sep,he,htl,hQ,wf,nq,?_⟩
    cases hm:nowC t p e with
    |none=>
     rw [rest_none he hm] at k⊢
     exact k
    |some m=>
     rw [rest_now hm] at k⊢
     dsimp only at k
     rw [if_neg (fun z=>hn (by rw [hm,z])),if_neg (fun z=>hn2 (by rw [hm,z]))] at k
     exact k
def notesOf (g:Gath) (p:Nat) (l:List Nat):Quire.Rd (Gath×Nat):=match Quire.notesAt (l.length+1) g 0 (p+1) l with
 | .error x=> .error x
 | .ok (h,y,z)=>if Quire.PLACES < h.word.length∨Quire.hasLeaf h.word=false then .error p else .ok ((h,0),y,z)
def finN (p:Nat) (r:Quire.Rd Gath):Quire.Rd (Gath×Nat):=match r with
 | .error x=> .error x
 | .ok (h,y,z)=>if Quire.PLACES < h.word.length∨Quire.hasLeaf h.word=false then .error p else .ok ((h,0),y,z)
def spNs (a:Adr) (K:W.Frag):Sp:=fun vs H Q E=>∃c ch q sg lv gp,∃p e:Nat,∃t g,vs= [.ref c,.ref q]/\CurAt a H c ch p e/\SqL K H ch (txV t)/\Sep K ch [lv,gp] t/\e<=t.length/\t.length<=30000/\nowC t p e=some Quire.LEFT/\QAt a H q sg lv gp g/\WF g/\q≠c/\
 DoesQ a c ch q sg lv gp e H E (notesOf g p (rest t (p+1) e)) fun _ H'=>Q .non H'
theorem ok_70 (T:Txt K mg a):FnOk P w K mg base (CXd P w) 8 a.f_70 a.d_70 ["cursor","quire"] (spNs a K):=by
 refine okX T.u_70 sc_70 (fun vs H Q E h=>?_) (fun cdv A outer s H vs Q E hr h=>?_)
 ·obtain ⟨_,_,_,_,_,_,_,_,_,_,rfl,_⟩:=h;rfl
 ·obtain ⟨c,ch,q,sg,lv,gp,p,e,t,g,rfl,⟨dx,hc⟩,hs,sep,he,htl,hnow,hQ,wf,nq,k⟩:=h
  refine ⟨_,(pss_cons (ps_set (i:=2) sc_70.nd rfl (Or.inl rfl) (pe_fld (pv 0) rfl)) (pss_cons (ps_expr (pe_meth (pv 0) T.cl_150 T.me_44 (ok_44 T) (rm hr) (b_44 T) .nil passD (pa_cons (g_165 T) pa_nil))) (pss_cons (ps_set (i:=3) sc_70.nd rfl (Or.inl rfl) (pe_call (ok_81 T) (rm hr) rfl T.m_81 T.u_81.kp (b_81 T) .nil passD (pa_cons (pv 0) (pa_cons (pv 1) (pa_cons pe_non pa_nil))))) (pss_cons (ps_while passOwnD (pt_cmpR op_eq (pe_meth0 (pv 0) T.cl_150 T.me_42 (ok_42 T) (rm hr) (b_42 T) .nil passN) (g_155 T) (nomark _)) (pss_cons (ps_expr (pe_meth0 (pv 0) T.cl_150 T.me_43 (ok_43 T) (rm hr) (b_43 T) .nil passN)) (pss_cons (ps_expr (pe_meth (pv 0) T.cl_150 T.me_44 (ok_44 T) (rm hr) (b_44 T) .nil passD (pa_cons (g_154 T) pa_nil))) (pss_one (ps_set (i:=3) sc_70.nd rfl (Or.inl rfl) (pe_call (ok_81 T) (rm hr) rfl T.m_81 T.u_81.kp (b_81 T) .nil passD (pa_cons (pv 0) (pa_cons (pv 1) (pa_cons (pv 3) pa_nil))))))))) (pss_cons (ps_expr (pe_meth (pv 0) T.cl_150 T.me_44 (ok_44 T) (rm hr) (b_44 T) .nil passD (pa_cons (g_158 T) pa_nil))) (pss_one (ps_if (pt_not (pt_truth (pe_call (ok_31 T) (rm hr) rfl T.m_31 T.u_31.kp (b_31 T) .nil passN (pa_cons (pv 1) pa_nil)) (fun _=>rfl))) (pss_one (ps_raise T.xc_76 (ok_15 T) (rm hr) rfl T.m_76 (b_15 T) passD (pa_cons (pv 2) pa_nil))) pss_nil))))))),?_⟩
  walk_at "go0"
  refine ⟨c,ch,p,e,t,Quire.LEFT,rfl,⟨dx,hc⟩,hs,he,?_⟩
  rw [charAt_now hnow]
  intro H1 hc1 (fr1:Fr c H H1)
  have hs1:=fr1.seqC ⟨dx,hc⟩ hs
  have hQ1:=hQ.fr fr1 ⟨dx,hc⟩ nq wf
  have k0:DoesQ a c ch q sg lv gp e H E (finN p (Quire.notesAt ((rest t (p+1) e).length+1) g 0 (p+1) (rest t (p+1) e))) fun _ H'=>Q .non H':=k
  clear k
  rw [notes_eq] at k0
  walk_at "go"
  refine ⟨c,ch,q,sg,lv,gp,p+1,e,t,g,none,rfl,hc1,hs1,sep,he,htl,hQ1,wf,nq,?_⟩
  have eat:=eats_note g 0 (p+1) (rest t (p+1) e)
  cases hr2:Quire.noteAt g (lastOf none) (p+1) (rest t (p+1) e) with
  |error x=>
   have hr2:Quire.noteAt g 0 (p+1) (rest t (p+1) e)= .error x:=hr2
   rw [hr2] at k0
   exact k0
  |ok y=>
   obtain ⟨⟨h1,l1⟩,z1,u1⟩:=y
   have hr2:Quire.noteAt g 0 (p+1) (rest t (p+1) e)= .ok ((h1,l1),z1,u1):=hr2
   obtain ⟨rfl,pz,ez⟩:=eats_rest he eat hr2
   rw [hr2] at k0
   dsimp only at k0
   obtain ⟨wf1,hl1,_⟩:=note_wf wf hr2
   intro H2 hc2 hQ2 (fr2:FrL [c,lv,gp] H1 H2) kg2
   obtain ⟨dx1',hc1'⟩:=id hc1
   obtain ⟨_,na2,_⟩:=hQ1.apart wf
   have ngc:gp≠c:=Ne.symm (na2 c ch _ _ hc1).2.1
   obtain ⟨_,_,_,gs0,hgp0,_⟩:=id hQ
   have kg02:KeepG lv gp H H2:=(KeepG.of_fr fr1 ngc hgp0).trans kg2 (FrL.of_fr fr1 (by simp)) hc
   walk_at "go"
   refine ⟨fun m σ' H'=>∃(h:Gath) (l f z:Nat),m=e - z/\σ'= [some (.ref c),some (.ref q),some (.int (p:Int)),some (.int ((l:Int) - 1))]/\CurAt a H' c ch z e/\QAt a H' q sg lv gp h/\WF h/\FrL [c,lv,gp] H H'/\KeepG lv gp H H'/\1<=l/\e - z<=f/\
    DoesQ a c ch q sg lv gp e H E (finN p (tailN f h l z (rest t z e))) fun _ H'=>Q .non H',⟨_,h1,l1,(rest t (p+1) e).length,z1,rfl,rfl,hc2,hQ2,wf1,(FrL.of_fr fr1 (by simp)).trans fr2,kg02,hl1,by rw [rest_len he];omega,k0⟩,?_⟩
   clear k0 hr2 eat
   rintro m σ' H' ⟨gg,l,f,z,rfl,rfl,⟨dx',hc'⟩,hQ',wf',fr',kg',hl,hf,k⟩
   have hs':SqL K H' ch (txV t):=fr'.seqC ⟨dx,hc⟩ sep hs
   walk_at "go"
   refine R.eq_ scal_ch (R.bl (R.dif (fun h=>?_) (fun h=>?_)))
   ·have hn:nowC t z e=some Quire.COMMA:=(chV_eq (n:=Quire.COMMA)).mp h
    have lt:=now_lt hn
    refine ⟨_,fun _ _ h=>h,?_⟩
    walk_at "go"
    refine ⟨c,ch,z,e,rfl,⟨dx',hc'⟩,fun H3 hc3 (fr3:Fr c H' H3)=>?_⟩
    have hs3:=fr3.seqC ⟨dx',hc'⟩ hs'
    have hQ3:=hQ'.fr fr3 ⟨dx',hc'⟩ nq wf'
    obtain ⟨d3,hc3'⟩:=id hc3
    walk_at "go"
    refine ⟨c,ch,z+1,e,t,Quire.BLANK,rfl,hc3,hs3,he,?_⟩
    rw [rest_now hn] at k
    unfold tailN at k
    dsimp only at k
    rw [if_neg (by decide),if_neg (by simp)] at k
    have eat2:=QM.eats_char Quire.BLANK (z+1) (rest t (z+1) e)
    cases hr3:Quire.charAt Quire.BLANK (z+1) (rest t (z+1) e) with
    |error x=>rw [hr3] at k;exact k
    |ok y=>
     obtain ⟨_,z2,u2⟩:=y
     obtain ⟨rfl,pz2,ez2⟩:=eats_rest he eat2 hr3
     rw [hr3] at k
     dsimp only at k
     intro H4 hc4 (fr4:Fr c H3 H4)
     have hs4:=fr4.seqC hc3 hs3
     have hQ4:=hQ3.fr fr4 hc3 nq wf'
     have ez3:=ez2 (by omega)
     obtain ⟨f,rfl⟩:∃f',f=f'+1:=⟨f - 1,by omega⟩
     rw [notes_eq] at k
     walk_at "go"
     have erk:V.int ((l:Int) - 1)=rkV (some (l - 1)):=by
      show V.int ((l:Int) - 1)=V.int ((l - 1:Nat):Int)
      rw [show ((l - 1:Nat):Int)=(l:Int) - 1 by omega]
     have elast:lastOf (some (l - 1))=l:=by
      show l - 1+1=l
      omega
     refine ⟨c,ch,q,sg,lv,gp,z2,e,t,_,some (l - 1),by rw [erk];rfl,hc4,hs4,sep,he,htl,hQ4,wf',nq,?_⟩
     rw [elast]
     have eat:=eats_note gg l z2 (rest t z2 e)
     cases hr4:Quire.noteAt gg l z2 (rest t z2 e) with
     |error x=>rw [hr4] at k;exact k
     |ok y=>
      obtain ⟨⟨h5,l5⟩,z5,u5⟩:=y
      obtain ⟨rfl,pz5,_⟩:=eats_rest he eat hr4
      rw [hr4] at k
      dsimp only at k
      obtain ⟨wf5,hl5,_⟩:=note_wf wf' hr4
      intro H5 hc5 hQ5 (fr5:FrL [c,lv,gp] H4 H5) kg5
      have kg34:KeepG lv gp H' H4:=by
       obtain ⟨_,_,_,gs1,hgp1,_⟩:=id hQ'
       exact .of_eq (by rw [fr4 _ _ (fr3 _ _ hgp1 ngc) ngc,hgp1])
      have fr04:FrL [c,lv,gp] H H4:=(fr'.trans (FrL.of_fr fr3 (by simp))).trans (FrL.of_fr fr4 (by simp))
      refine ⟨e - z5,by omega,h5,l5,f,z5,rfl,rfl,hc5,hQ5,wf5,?_,(kg'.trans kg34 fr' hc).trans kg5 fr04 hc,hl5,by omega,k⟩
      exact ((fr'.trans (FrL.of_fr fr3 (by simp))).trans (FrL.of_fr fr4 (by simp))).trans fr5
   ·have hn:¬nowC t z e=some Quire.COMMA:=fun x=>h ((chV_eq (n:=Quire.COMMA)).mpr x)
    walk_at "go"
    refine ⟨c,ch,z,e,t,Quire.RIGHT,rfl,⟨dx',hc'⟩,hs',he,?_⟩
    by_cases hr3:nowC t z e=some Quire.RIGHT
    ·rw [charAt_now hr3]
     rw [rest_now hr3] at k
     unfold tailN finN at k
     dsimp only at k
     rw [if_pos rfl] at k
     dsimp only at k
     intro H3 hc3 (fr3:Fr c H' H3)
     have hQ3:=hQ'.fr fr3 ⟨dx',hc'⟩ nq wf'
     walk_at "go"
     refine ⟨q,gg,rfl,hQ3.is,wf',fun H4 s4=>?_⟩
     walk_at "go"
     refine R.bbnif (fun h5=>?_) (fun h5=>?_)<;>walk_at "go"
     ·have h6:Quire.PLACES < gg.word.length∨Quire.hasLeaf gg.word=false:=by
       rw [Bool.and_eq_false_iff,decide_eq_false_iff_not] at h5
       unfold Quire.PLACES
       rcases h5 with h5|h5
       ·exact .inl (by omega)
       ·exact .inr h5
      rw [if_pos h6] at k
      exact ⟨_,rfl,fun dx2 hd=>k _ _ upd_same⟩
     ·have h6:¬(Quire.PLACES < gg.word.length∨Quire.hasLeaf gg.word=false):=by
       rw [Bool.and_eq_true,decide_eq_true_eq] at h5
       unfold Quire.PLACES
       rintro (z|z)
       ·omega
       ·rw [h5.2] at z;cases z
      rw [if_neg h6] at k
      have hc4:CurAt a H4 c ch (z+1) e:=by obtain ⟨d3,hc3⟩:=hc3;exact ⟨d3,s4 _ _ hc3⟩
      obtain ⟨_,_,_,gs1,hgp1,_⟩:=id hQ'
      exact k H4 hc4 (hQ3.same s4) ((fr'.trans (FrL.of_fr fr3 (by simp))).trans (FrL.of_same s4)) (kg'.trans (.of_eq (by rw [s4 _ _ (fr3 _ _ hgp1 ngc),hgp1])) fr' hc)
    ·rw [charAt_not he hr3]
     have e5:tailN f gg l z (rest t z e)= .error z:=by
      cases hm:nowC t z e with
      |none=>rw [rest_none he hm];rfl
      |some m=>
       rw [rest_now hm]
       unfold tailN
       dsimp only
       rw [if_neg (fun x=>hr3 (by rw [hm,x])),if_pos (fun x=>hn (by rw [hm,x]))]
     rw [e5] at k
     exact k
end
end Q
namespace QM
open Quire
def rk (s:Sig):Nat:=100*s.times+s.sign
theorem rk_next {s z:Sig} (h:s.next=some z):rk s < rk z:=by
 unfold Sig.next at h
 unfold rk
 split at h
 ·cases h
 ·split at h
  ·injection h with h;subst h;show 100*s.times+s.sign < 100*s.times+(s.sign+1);omega
  ·split at h
   ·rename_i h1 h2 h3
    injection h with h;subst h
    show 100*s.times+s.sign < 100*(s.times+1)+(s.sign+1 - LETTERS)
    unfold LETTERS at*
    omega
   ·cases h
def nx:Nat->Sig->Option Sig
 |0,s=>some s
 |n+1,s=>s.next.bind (nx n)
theorem nx_rk:∀{n:Nat} {s z:Sig},nx n s=some z->rk s+n<=rk z
 |0,s,z,h=>by injection h with h;subst h;exact Nat.le_refl _
 |n+1,s,z,h=>by
  unfold nx at h
  cases hn:s.next with
  |none=>rw [hn] at h;cases h
  |some y=>
   rw [hn] at h
   have:=nx_rk (n:=n) (s:=y) h
   have:=rk_next hn
   omega
theorem nx_add:∀(n k:Nat) (s:Sig),nx (n+k) s=(nx n s).bind (nx k)
 |0,k,s=>by rw [Nat.zero_add];rfl
 |n+1,k,s=>by
  rw [show n+1+k=(n+k)+1 by omega]
  unfold nx
  cases s.next with
  |none=>rfl
  |some y=>exact nx_add n k y
theorem nx_uniq {n k:Nat} {s z:Sig} (h1:nx n s=some z) (h2:nx k s=some z):n=k:=by
 have key:∀{a b:Nat},a<=b->nx a s=some z->nx b s=some z->a=b:=by
  intro a b hab ha hb
  have e:nx (a+(b - a)) s=some z:=by rw [show a+(b - a)=b by omega];exact hb
  rw [nx_add,ha] at e
  have:=nx_rk (n:=b - a) (s:=z) e
  omega
 rcases Nat.le_total n k with h|h
 ·exact key h h1 h2
 ·exact (key h h2 h1).symm
theorem chain_cons (s:Sig) (n:Nat):∃l,s.chain n=s::l:=by
 cases n with
 |zero=>exact ⟨_,rfl⟩
 |succ n=>exact ⟨_,rfl⟩
theorem chain_succ {s y:Sig} (n:Nat) (h:s.next=some y):s.chain (n+1)=s::y.chain n:=by
 show s::(match s.next with|some t=>t.chain n|none=> [])=_
 rw [h]
theorem chain_nx:∀(n:Nat) (s z:Sig),((s.chain n).length=n+1/\(s.chain n).getLast? =some z)↔nx n s=some z
 |0,s,z=>by
  show ([s].length=1/\ [s].getLast? =some z)↔some s=some z
  simp
 |n+1,s,z=>by
  cases hn:s.next with
  |none=>
   have e:s.chain (n+1)= [s]:=by
    show s::(match s.next with|some t=>t.chain n|none=> [])=_
    rw [hn]
   rw [e]
   unfold nx
   rw [hn]
   constructor
   ·rintro ⟨h,_⟩
    simp at h
   ·intro h;cases h
  |some y=>
   rw [chain_succ n hn]
   unfold nx
   rw [hn]
   have ih:=chain_nx n y z
   obtain ⟨l,hl⟩:=chain_cons y n
   show _↔nx n y=some z
   rw [←ih]
   rw [hl]
   simp
def fwd:Nat->List Sig->Sig->Sig->Option (List Sig)
 |0,_,_,_=>none
 |f+1,ks,s,z=>if s=z then some [] else match s.next with
  |none=>none
  |some y=>if y∈ks∨ks.length=GATHERINGS then none else (fwd f (ks++ [y]) y z).map (y:: ·)
theorem fwd_ok:∀{f:Nat} {ks:List Sig} {s z:Sig} {l:List Sig},ks.length<=48->fwd f ks s z=some l->
  s.chain l.length=s::l/\nx l.length s=some z/\ks.length+l.length<=48/\∀x∈l,x∉ks
 |0,_,_,_,_,_,h=>by cases h
 |f+1,ks,s,z,l,hk,h=>by
  unfold fwd at h
  split at h
  ·rename_i e
   injection h with h;subst h;subst e
   exact ⟨rfl,rfl,hk,fun _ m=>nomatch m⟩
  ·cases hn:s.next with
   |none=>rw [hn] at h;cases h
   |some y=>
    rw [hn] at h
    dsimp only at h
    split at h
    ·cases h
    ·rename_i hh
     have hh1:y∉ks:=fun z=>hh (.inl z)
     have hh2:¬ks.length=48:=fun z=>hh (.inr z)
     cases hf:fwd f (ks++ [y]) y z with
     |none=>rw [hf] at h;cases h
     |some r=>
      rw [hf] at h
      injection h with h
      subst h
      obtain ⟨h1,h2,h3,h4⟩:=fwd_ok (by rw [List.length_append,List.length_singleton];omega) hf
      rw [List.length_append,List.length_singleton] at h3
      refine ⟨?_,?_,?_,?_⟩
      ·show s.chain (r.length+1)=_
       rw [chain_succ _ hn,h1]
      ·show nx (r.length+1) s=_
       unfold nx
       rw [hn]
       exact h2
      ·show ks.length+(r.length+1)<=48
       omega
      ·intro x hx
       rcases List.mem_cons.mp hx with e|hx
       ·rw [e];exact hh1
       ·exact fun m=>h4 x hx (List.mem_append_left _ m)
theorem chain_mem_rk:∀{n:Nat} {s x:Sig},x∈s.chain n->rk s<=rk x
 |0,s,x,h=>by
  rw [show s.chain 0= [s] from rfl,List.mem_singleton] at h
  rw [h]
  exact Nat.le_refl _
 |n+1,s,x,h=>by
  cases hn:s.next with
  |none=>
   have e:s.chain (n+1)= [s]:=by
    show s::(match s.next with|some t=>t.chain n|none=> [])=_
    rw [hn]
   rw [e,List.mem_singleton] at h
   rw [h]
   exact Nat.le_refl _
  |some y=>
   rw [chain_succ n hn] at h
   rcases List.mem_cons.mp h with e|h
   ·rw [e];exact Nat.le_refl _
   ·have:=chain_mem_rk h
    have:=rk_next hn
    omega
theorem fwd_all:∀{n f:Nat} {ks:List Sig} {s z:Sig},n < f->nx n s=some z->ks.length+n<=48->(∀x∈(s.chain n).tail,x∉ks)->fwd f ks s z=some (s.chain n).tail
 |_,0,_,_,_,hf,_,_,_=>absurd hf (by omega)
 |0,f+1,ks,s,z,hf,h,hk,ha=>by
  injection h with h
  unfold fwd
  rw [if_pos h]
  rfl
 |n+1,f+1,ks,s,z,hf,h,hk,ha=>by
  have r:=nx_rk h
  unfold fwd
  rw [if_neg (fun e=>by rw [e] at r;omega)]
  unfold nx at h
  cases hn:s.next with
  |none=>rw [hn] at h;cases h
  |some y=>
   rw [hn] at h
   rw [chain_succ n hn] at ha⊢
   obtain ⟨l,hl⟩:=chain_cons y n
   have hy:y∉ks:=ha y (by rw [hl];exact List.mem_cons_self ..)
   dsimp only
   rw [if_neg (by rintro (z|z);exact hy z;unfold GATHERINGS at z;omega)]
   have key:∀x∈(y.chain n).tail,x∉ks++ [y]:=by
    intro x hx m
    rcases List.mem_append.mp m with m|m
    ·exact ha x (List.mem_of_mem_tail hx) m
    ·rw [List.mem_singleton] at m
     subst m
     cases n with
     |zero=>cases hx
     |succ n=>
      cases hn2:x.next with
      |none=>
       have e:x.chain (n+1)= [x]:=by
        show x::(match x.next with|some t=>t.chain n|none=> [])=_
        rw [hn2]
       rw [e] at hx
       cases hx
      |some w=>
       rw [chain_succ n hn2] at hx
       have:=chain_mem_rk (s:=w) hx
       have:=rk_next hn2
       omega
   rw [fwd_all (n:=n) (by omega) h (by rw [List.length_append,List.length_singleton];omega) key]
   show some (y::(y.chain n).tail)=some (y.chain n)
   rw [hl]
   rfl
def btw (ks:List Sig) (s z:Sig):Option (List Sig):=if s=z then none else (fwd 48 (ks++ [s]) s z).map (s:: ·)
theorem taken_mem (m:Make) (x:Sig):taken m x=decide (x∈m.map Gath.sig):=by
 unfold taken
 by_cases h:x∈m.map Gath.sig
 ·rw [decide_eq_true h,List.contains_iff_mem.mpr h]
 ·rw [decide_eq_false h]
  cases e:(m.map Gath.sig).contains x with
  |false=>rfl
  |true=>exact absurd (List.contains_iff_mem.mp e) h
theorem between_eq {m:Make} {s z:Sig} (hl:m.length < 48) (hs:s∉m.map Gath.sig):between m s z=btw (m.map Gath.sig) s z:=by
 have hlm:(m.map Gath.sig++ [s]).length=m.length+1:=by simp
 have all_eq:∀n,((decide (1<=n)&&(decide (m.length+n+1<=GATHERINGS)&&((s.chain n).length==n+1&&(s.chain n).getLast? ==some z)))=true)↔(1<=n/\m.length+n+1<=48/\nx n s=some z):=by
  intro n
  rw [Bool.and_eq_true,Bool.and_eq_true,Bool.and_eq_true,decide_eq_true_iff,decide_eq_true_iff,beq_iff_eq,beq_iff_eq,chain_nx]
  rfl
 unfold between btw
 by_cases e:s=z
 ·rw [if_pos e]
  rw [List.find?_eq_none.mpr]
  ·rfl
  ·intro n _ h
   obtain ⟨h1,_,h2⟩:=(all_eq n).mp h
   have:=nx_rk h2
   rw [e] at this
   omega
 ·rw [if_neg e]
  cases hf:fwd 48 (m.map Gath.sig++ [s]) s z with
  |some l=>
   obtain ⟨h1,h2,h3,h4⟩:=fwd_ok (by rw [hlm];omega) hf
   rw [hlm] at h3
   have hpos:1<=l.length:=by
    cases l with
    |nil=>injection h2 with h2;exact absurd h2 e
    |cons _ _=>exact Nat.succ_le_succ (Nat.zero_le _)
   cases hq:(List.range GATHERINGS).find? fun (n:Nat)=>decide (1<=n)&&(decide (m.length+n+1<=GATHERINGS)&&((s.chain n).length==n+1&&(s.chain n).getLast? ==some z)) with
   |none=>
    refine absurd ((all_eq l.length).mpr ⟨hpos,by omega,h2⟩) (List.find?_eq_none.mp hq l.length (List.mem_range.mpr ?_))
    unfold GATHERINGS
    omega
   |some n=>
    obtain ⟨_,_,h5⟩:=(all_eq n).mp (by have z:=List.find?_some hq;exact z)
    rw [nx_uniq h5 h2]
    show (if (s.chain l.length).any (taken m)=true then none else some (s.chain l.length))=_
    rw [h1]
    rw [if_neg]
    ·rfl
    ·intro h
     obtain ⟨x,hx,ht⟩:=List.any_eq_true.mp h
     rw [taken_mem,decide_eq_true_iff] at ht
     rcases List.mem_cons.mp hx with e|hx
     ·rw [e] at ht;exact hs ht
     ·exact h4 x hx (List.mem_append_left _ ht)
  |none=>
   cases hq:(List.range GATHERINGS).find? fun (n:Nat)=>decide (1<=n)&&(decide (m.length+n+1<=GATHERINGS)&&((s.chain n).length==n+1&&(s.chain n).getLast? ==some z)) with
   |none=>rfl
   |some n=>
    obtain ⟨g1,g2,g3⟩:=(all_eq n).mp (by have z:=List.find?_some hq;exact z)
    show (if (s.chain n).any (taken m)=true then none else some (s.chain n))=none
    rw [if_pos]
    cases ha:(s.chain n).any (taken m) with
    |true=>rfl
    |false=>
     exfalso
     have hx:∀x∈(s.chain n).tail,x∉m.map Gath.sig++ [s]:=by
      intro x hx mm
      rcases List.mem_append.mp mm with mm|mm
      ·have:=List.any_eq_false.mp ha x (List.mem_of_mem_tail hx)
       rw [taken_mem,decide_eq_true_iff] at this
       exact this mm
      ·rw [List.mem_singleton] at mm
       subst mm
       cases n with
       |zero=>cases hx
       |succ n=>
        unfold nx at g3
        cases hn2:x.next with
        |none=>rw [hn2] at g3;cases g3
        |some w=>
         rw [chain_succ n hn2] at hx
         have:=chain_mem_rk (s:=w) hx
         have:=rk_next hn2
         omega
     rw [fwd_all (n:=n) (by omega) g3 (by rw [hlm];omega) hx] at hf
     cases hf
end QM
namespace QM
open Quire
theorem sig_ok {p:Nat} {t:Text} {s:Sig} {q:Nat} {u:Text} (h:sigAt p t= .ok (s,q,u)):s.ok=true:=by
 rw [sig_eq] at h
 cases ht:timesAt p t with
 |error e=>rw [ht] at h;cases h
 |ok y=>
  obtain ⟨n,q',r⟩:=y
  rw [ht] at h
  dsimp only at h
  cases r with
  |nil=>cases h
  |cons c v=>
   dsimp only at h
   cases hs:signAt c with
   |none=>rw [hs] at h;cases h
   |some x=>
    rw [hs] at h
    dsimp only at h
    have hx:x < 50:=by
     have e:signChars.idxOf? c=some x:=hs
     unfold List.idxOf? at e
     have:=(List.findIdx?_eq_some_iff_getElem.mp e).1
     have l:signChars.length=50:=by decide
     omega
    by_cases hh:toldB t=true/\(n < 2∨TIMES < n)
    ·rw [if_pos hh] at h;cases h
    ·rw [if_neg hh] at h
     injection h with h
     injection h with h1 h2
     subst h1
     unfold Sig.ok
     show (decide (x < SIGNS)&&(decide (1<=n)&&decide (n<=TIMES)))=true
     rw [decide_eq_true (show x < SIGNS from hx)]
     cases b:toldB t with
     |true=>
      have h3:¬(n < 2∨TIMES < n):=fun z=>hh ⟨b,z⟩
      unfold TIMES at*
      simp
      omega
     |false=>
      have:n=1:=by
       unfold timesAt at ht
       rw [b,if_neg (by simp)] at ht
       injection ht with ht
       injection ht with ht _
       exact ht.symm
      subst this
      rfl
theorem next_ok {s z:Sig} (h:s.next=some z) (ok:s.ok=true):z.ok=true:=by
 unfold Sig.ok at*
 simp only [Bool.and_eq_true,decide_eq_true_iff] at*
 unfold Sig.next at h
 unfold SIGNS TIMES LETTERS at*
 split at h
 ·cases h
 ·split at h
  ·injection h with h;subst h
   show s.sign+1 < 50/\1<=s.times/\s.times<=99
   omega
  ·split at h
   ·injection h with h;subst h
    show s.sign+1 - 23 < 50/\1<=s.times+1/\s.times+1<=99
    omega
   ·cases h
theorem ok_times {s:Sig} (ok:s.ok=true):s.times<=99/\1<=s.times/\s.sign < 50:=by
 unfold Sig.ok at*
 simp only [Bool.and_eq_true,decide_eq_true_iff] at*
 exact ⟨ok.2.2,ok.2.1,ok.1⟩
def tailS (ks:List Sig) (s:Sig) (q:Nat):Text->Rd (List Sig)
 | []=> .ok ([s],q,[])
 |c::v=>if c=DASH then (match sigAt (q+1) v with
   | .error e=> .error e
   | .ok (z,r,w)=>match btw ks s z with
    |none=> .error (q+1)
    |some l=> .ok (l,r,w))
  else .ok ([s],q,c::v)
def sigsAt (ks:List Sig) (p:Nat) (t:Text):Rd (List Sig):=match sigAt p t with
 | .error e=> .error e
 | .ok (s,q,u)=>if s∈ks∨ks.length=GATHERINGS then .error p else tailS ks s q u
def tailI (m:Make) (p:Nat) (l:List Sig) (r n:Nat) (v:Text):Rd Make:=match (match l,v with
     | [s],c::w=>if c=LEFT then (match notesAt (w.length+1) (regular s n) 0 (r+1) w with
       | .error e=> .error e
       | .ok (h,y,z)=>if PLACES < h.word.length∨hasLeaf h.word=false then .error r else .ok ([h],y,z))
      else .ok ([regular s n],r,v)
     |_,c::_=>if c=LEFT then .error r else .ok (l.map fun (x:Sig)=>regular x n,r,v)
     |_,[]=> .ok (l.map fun (x:Sig)=>regular x n,r,v):Rd Make) with
    | .error e=> .error e
    | .ok (a,r,v)=>match m.getLast?,a with
     |some x,y::_=>if follows x y=true then .error p else .ok (a,r,v)
     |_,_=> .ok (a,r,v)
theorem btw_cons {ks:List Sig} {s z:Sig} {l:List Sig} (h:btw ks s z=some l):∃x r,l=s::x::r:=by
 unfold btw at h
 split at h
 ·cases h
 ·rename_i e
  cases hf:fwd 48 (ks++ [s]) s z with
  |none=>rw [hf] at h;cases h
  |some r=>
   rw [hf] at h
   injection h with h
   unfold fwd at hf
   rw [if_neg e] at hf
   cases hn:s.next with
   |none=>rw [hn] at hf;cases hf
   |some y=>
    rw [hn] at hf
    dsimp only at hf
    split at hf
    ·cases hf
    ·cases hg:fwd 47 (ks++ [s]++ [y]) y z with
     |none=>rw [hg] at hf;cases hf
     |some r'=>
      rw [hg] at hf
      injection hf with hf
      exact ⟨y,r',by rw [←h,←hf]⟩
theorem item_eq {m:Make} {p:Nat} {t:Text} (hl:m.length<=48):itemAt m p t=match sigsAt (m.map Gath.sig) p t with
  | .error e=> .error e
  | .ok (l,q,u)=>match number raisedDigit q u with
   | .error e=> .error e
   | .ok (n,r,v)=>if sizeOk n=false then .error q else tailI m p l r n v:=by
 unfold itemAt sigsAt
 cases hs:sigAt p t with
 |error e=>rfl
 |ok y=>
  obtain ⟨s,q,u⟩:=y
  dsimp only
  have e:(taken m s=true∨GATHERINGS<=m.length)↔(s∈m.map Gath.sig∨(m.map Gath.sig).length=GATHERINGS):=by
   rw [taken_mem,decide_eq_true_iff,List.length_map]
   unfold GATHERINGS
   constructor
   ·rintro (h|h)
    ·exact .inl h
    ·exact .inr (by omega)
   ·rintro (h|h)
    ·exact .inl h
    ·exact .inr (by omega)
  by_cases c1:taken m s=true∨GATHERINGS<=m.length
  ·rw [if_pos c1,if_pos (e.mp c1)]
  ·rw [if_neg c1,if_neg (fun z=>c1 (e.mpr z))]
   have ns:s∉m.map Gath.sig:=fun z=>c1 (e.mpr (.inl z))
   have nl:m.length < 48:=by
    have:¬48<=m.length:=fun z=>c1 (.inr z)
    omega
   cases u with
   |nil=>
    unfold tailS
    dsimp only
    cases number raisedDigit q [] with
    |error e=>rfl
    |ok y=>
     obtain ⟨n,r,v⟩:=y
     cases v<;>rfl
   |cons c v=>
    unfold tailS
    dsimp only
    by_cases cd:c=DASH
    ·rw [if_pos cd,if_pos cd]
     cases hz:sigAt (q+1) v with
     |error e=>rfl
     |ok y=>
      obtain ⟨z,r,w⟩:=y
      dsimp only
      rw [between_eq nl ns]
      cases hb:btw (m.map Gath.sig) s z with
      |none=>rfl
      |some l=>
       dsimp only
       cases number raisedDigit r w with
       |error e=>rfl
       |ok y=>
        obtain ⟨n,r,v⟩:=y
        dsimp only
        obtain ⟨x,l',rfl⟩:=btw_cons hb
        cases v<;>rfl
    ·rw [if_neg cd,if_neg cd]
     dsimp only
     cases number raisedDigit q (c::v) with
     |error e=>rfl
     |ok y=>
      obtain ⟨n,r,v⟩:=y
      cases v<;>rfl
end QM
namespace XL
open PySem PySem.Spec PyProof.Rows L2
section
variable {prog:Program} {w:World} {kd:HeapKind prog w (List Key)}
theorem meets_lenH {da:Addr} (ns:(da==sysModules)=false):
  MeetsIn prog w (Builtin.«dict.__len__» ⟨[.ref da],[]⟩) (fun _ R s=>∃xs:List (List Key×Addr×Value),s.heap.DictOfH kd da xs/\R (.ok (.ret (.int xs.length s.toks))) {s with toks:=s.toks+1}):=by
 refine .of_wp fun A R s z=>?_
 obtain ⟨xs,⟨ob,en,ep,e1,e2,e3,e4,_,_⟩,k⟩:=z
 show wpAny _ _ (dictSize da >>= _) _ _ s
 unfold dictSize
 refine wpAny_bind (wpAny_bind (wpAny_dictEntries e1 e3 (wpAny_pure ?_)))
 show wpAny _ _ (Builtin.Dict.pendingCount da >>= _) _ _ s
 refine wpAny_bind (wpAny_pendingCount_other ns (wpAny_ret_mkInt ?_))
 rw [Nat.add_zero,size_of_entries e4]
 exact k
theorem lenH {A:Around} {E:Value->Shared->Prop} {s:Shared} {da:Addr} {xs:List (List Key×Addr×Value)} {Q:Value->Shared->Prop} (ns:(da==sysModules)=false) (dd:s.heap.DictOfH kd da xs) (lo:(xs.length:Int) < 2 ^ 63)
  (k:Q (.int xs.length (s.toks+1)) {s with toks:=s.toks+1+1}):wpAny (model prog w) A (call (.builtin "len") [.ref da]) Q E s:=by
 refine Calls.call_function_entry kind_len plain_len entry_len (args_len1 _) ?_
 unfold Builtin.«len»
 refine wpAny_bind (m:=oneArg "len" _) (wpAny_pure ?_)
 refine wpAny_bind (m:=callSpecial? (.ref da) (Str.ofString "__len__")) (wpAny_callSpecial?_slot (name:=Str.ofString "__len__") dd.typeIs F.slot_dict_len
  (call_meetsIn F.slot_dict_len dd.typeIs F.entry_dict_len (F.args_dict_len_1 _) (meets_lenH ns) ⟨xs,dd,?_⟩))
 show wpAny _ _ _ _ _ {s with toks:=s.toks+1}
 refine wpAny_bind (wpAny_holding (wpAny_pure ?_))
 refine wpAny_bind (wpAny_letGo ?_)
 show wpAny _ _ (if ((xs.length:Nat):Int) < 0 then _ else _) _ _ _
 rw [if_neg (by omega)]
 show wpAny _ _ (if ((xs.length:Nat):Int)≥2 ^ 63 then _ else _) _ _ _
 rw [if_neg (by omega)]
 exact wpAny_bind (wpAny_mkInt (wpAny_pure ⟨_,rfl,k⟩))
end
theorem KT.len {H:Hp} {kvs:List (List Key×V)} {xs:List (List Key×Addr×Value)} (r:KT H kvs xs):kvs.length=xs.length:=Paired.length r
theorem call_lenT {X:Cx}:CallR X (.builtin "len") (fun xs H Q=>∃a kvs,xs= [V.ref a]/\H a=some (.dT kvs)/\Q (.int kvs.length) H):=by
 intro pins s σ H xs us Q I r h
 obtain ⟨a,kvs,rfl,ha,q⟩:=h
 obtain ⟨u,rfl,ru⟩:=vals1 r
 cases ru
 obtain ⟨z,ns,ys,rel,dd⟩:=dt_of I.hok ha
 refine lenH ns dd (by rw [←KT.len rel];rw [sizeLine_eq] at z;omega) ?_
 rw [←KT.len rel]
 exact ⟨.int kvs.length,H,I.tok _,⟨_,rfl⟩,q⟩
end XL
namespace XL
open PySem PySem.Spec PyProof.Rows L2
section
variable {prog:Program} {w:World} {A:Around} {E:Value->Shared->Prop}
theorem key_stay {h h':Heap} {k:List Key} {a:Addr} (x:(tupleKind (mixKind prog w)).is h k a) (f:∀o,h.get? a=some o->h'.get? a=some o):(tupleKind (mixKind prog w)).is h' k a:=by
 obtain ⟨o,its,n,h1,r⟩:=x
 exact ⟨o,its,n,f o h1,r⟩
def mergeH (acc rest:List (List Key×Addr×Value)):List (List Key×Addr×Value):=rest.foldl (fun c q=>storedH c q.1 q.2.1 q.2.2) acc
theorem mem_storedH {xs:List (List Key×Addr×Value)} {k:List Key} {a:Addr} {v:Value} {x:List Key×Addr×Value} (h:x∈storedH xs k a v):(∃y∈xs,y.2.1=x.2.1)∨x.2.1=a:=by
 unfold storedH at h
 split at h
 ·obtain ⟨y,hy,e⟩:=List.mem_map.mp h
  refine .inl ⟨y,hy,?_⟩
  rw [←e]
  unfold putAt
  split<;>rfl
 ·rcases List.mem_append.mp h with h|h
  ·exact .inl ⟨x,h,rfl⟩
  ·rw [List.mem_singleton] at h
   exact .inr (by rw [h])
theorem storedH_len (xs:List (List Key×Addr×Value)) (k:List Key) (a:Addr) (v:Value):(storedH xs k a v).length<=xs.length+1:=by
 unfold storedH
 split
 ·rw [List.length_map];omega
 ·rw [List.length_append];simp
theorem dictH_stay {h h':Heap} {S:Addr} {acc:List (List Key×Addr×Value)} (d:h.DictOfH (tupleKind (mixKind prog w)) S acc) (fS:∀o,h.get? S=some o->h'.get? S=some o) (fk:∀x∈acc,∀o,h.get? x.2.1=some o->h'.get? x.2.1=some o):h'.DictOfH (tupleKind (mixKind prog w)) S acc:=by
 obtain ⟨o,es,ep,h1,h2,h3,h4,h5,h6⟩:=d
 exact ⟨o,es,ep,fS o h1,h2,h3,h4,fun x hx=>key_stay (h5 x hx) (fk x hx),h6⟩
theorem updT_loop {R:Result->Shared->Prop} {S I l:Addr} {items:Array Value} {res:Value} (hh:A.handled=none) (hu:A.units+1 < cLine) (hlI:l≠I) (hSI:S≠I) (hSl:S≠l):
  ∀(rest:List (List Key×Addr×Value)) (i:Nat) (acc:List (List Key×Addr×Value)) (ix:Int) (t:Tok) (s:Shared),items.size=i+rest.length->acc.length+rest.length<=sizeLine->
   (∀(j:Nat) (q:List Key×Addr×Value),rest[j]? =some q->∃b:Addr,items[i+j]? =some (.ref b)/\b≠S/\b≠I/\IsTup s.heap b #[.ref q.2.1,q.2.2]/\(tupleKind (mixKind prog w)).is s.heap q.1 q.2.1/\q.2.1≠S/\q.2.1≠I)->
   s.heap.IsListIter I l i->s.heap.IsList l items->s.heap.DictOfH (tupleKind (mixKind prog w)) S acc->(∀x∈acc,x.2.1≠S/\x.2.1≠I)->
   (∀h' tk,h'.DictOfH (tupleKind (mixKind prog w)) S (mergeH acc rest)->(∀b o,b≠S->b≠I->s.heap.get? b=some o->h'.get? b=some o)->R (.ok (.ret res)) {s with heap:=h',toks:=tk})->
   codeAny (model prog w) A (.builtin "dict.update.loop" ⟨[.ref S,.ref I,.int ix t,res],[]⟩) R s
 | [],i,acc,ix,t,s,hsz,hln,ht,hit,hl,hm,hna,hR=>by
  refine codeAny_builtin ud_entry ?_
  rw [Around.under_plainId ud_plain _]
  show wpAny _ A.in1 (pyNext (.ref I) >>= _) _ _ s
  refine wpAny_bind (wpAny_pyNext_list_end (A:=A.in1) hh hit hl (by first|exact Array.getElem?_eq_none (Nat.le_of_eq hsz)|(simp at hsz;simp;omega)) fun h' he=>?_)
  show wpAny _ A.in1 (Builtin.Dict.addKeywords S [] >>= _) _ _ _
  refine wpAny_bind (wpAny_pure (wpAny_pure ?_))
  exact hR h' s.toks (dictH_stay hm (fun o e=>he S o hSI e) fun x hx o e=>he _ o (hna x hx).2 e) fun b o _ hb e=>he b o hb e
 |q::rest,i,acc,ix,t,s,hsz,hln,ht,hit,hl,hm,hna,hR=>by
  obtain ⟨b,hb,hbS,hbI,htup,hk,nkS,nkI⟩:=ht 0 q rfl
  rw [List.length_cons] at hsz hln
  refine codeAny_builtin ud_entry ?_
  rw [Around.under_plainId ud_plain _]
  show wpAny _ A.in1 (pyNext (.ref I) >>= _) _ _ s
  refine wpAny_bind (wpAny_pyNext_list_item (x:= .ref b) hit hl (by simpa using hb) fun h1 hit1 hs1=>?_)
  have ht1:IsTup h1 b #[.ref q.2.1,q.2.2]:=htup.extBut hs1.extBut hbI
  have hl1:h1.IsList l items:=hl.extBut hs1.extBut hlI
  have hm1:h1.DictOfH (tupleKind (mixKind prog w)) S acc:=dictH_stay hm (fun o e=>hs1.extBut S o hSI e) fun x hx o e=>hs1.extBut _ o (hna x hx).2 e
  have hk1:(tupleKind (mixKind prog w)).is h1 q.1 q.2.1:=key_stay hk fun o e=>hs1.extBut _ o nkI e
  obtain ⟨o,ho,hc,n,hd⟩:=id ht1
  show wpAny _ A.in1 (holding [Value.ref b] _ >>= _) _ _ _
  refine wpAny_bind (wpAny_holding ?_)
  refine wpAny_bind (wpAny_tryCatch ?_)
  unfold Builtin.Dict.pairItems
  refine wpAny_bind (wpAny_typeOf (T:="tuple") ⟨o,ho,hc⟩ ?_)
  rw [if_pos (by first|decide|rfl|simp)]
  refine wpAny_bind (wpAny_seqItems ho hd (wpAny_pure ?_))
  show wpAny _ A.in1 (holding [.ref q.2.1,q.2.2] (dictSet S (.ref q.2.1) q.2.2)) _ _ _
  refine wpAny_holding (wpAny_dictSet_heap (knd:=tupleKind (mixKind prog w)) (k:=q.1) (tupleKind_room_in1 hu) hk1 hm1 (fun h2 hm2 hs2=>?_) (by omega))
  refine wpAny_pure ⟨plainId_quiet ud_plain _,updT_loop (items:=items) hh hu hlI hSI hSl rest (i+1) (storedH acc q.1 q.2.1 q.2.2) (ix+1) 0 _ (show items.size=i+1+rest.length by omega) ?_ (fun j q' e=>?_) ?_ ?_ hm2 (fun x hx=>?_) fun h' tk hd' k=>?_⟩
  ·have z:=storedH_len acc q.1 q.2.1 q.2.2
   omega
  ·obtain ⟨b',hb',hbS',hbI',htup',hk',n1',n2'⟩:=ht (j+1) q' (by simpa using e)
   refine ⟨b',?_,hbS',hbI',(htup'.extBut hs1.extBut hbI').extBut hs2.extBut hbS',key_stay hk' (fun o e=>hs2.extBut _ o n1' (hs1.extBut _ o n2' e)),n1',n2'⟩
   rw [show i+1+j=i+(j+1) by omega]
   exact hb'
  ·exact hit1.at fun o' e=>hs2.extBut I o' (Ne.symm hSI) e
  ·exact hl1.extBut hs2.extBut (Ne.symm hSl)
  ·rcases mem_storedH hx with ⟨y,hy,e⟩|e
   ·rw [←e];exact hna y hy
   ·rw [e];exact ⟨nkS,nkI⟩
  ·exact hR h' tk hd' fun c oc h3 h4 e=>k c oc h3 h4 (hs2.extBut c oc h3 (hs1.extBut c oc h4 e))
theorem call_dict_pairsT {s : Shared} {l : Addr} {ol : Obj} {items : Array Value} {n : Nat} {prs : List (List Key × Addr × Value)} {Q : Value -> Shared -> Prop} (hh : A.handled = none) (hu : A.units + 4 < cLine) (hl : s.heap.get? l = some ol) (hc : ol.cls = .type "list") (hd : ol.dict = none)
  (hdat : ol.data = .seq items n) (hsz : items.size = prs.length) (hln : prs.length <= sizeLine)
  (ht : ∀ (j : Nat) (q : List Key × Addr × Value), prs[j]? = some q -> ∃ b : Addr, items[j]? = some (.ref b) /\ IsTup s.heap b #[.ref q.2.1, q.2.2] /\ (tupleKind (mixKind prog w)).is s.heap q.1 q.2.1)
  (h : ∀ h' tk, h'.DictOfH (tupleKind (mixKind prog w)) s.heap.objs.size (mergeH [] prs) -> (∀ b o, s.heap.get? b = some o -> h'.get? b = some o) -> Q (.ref s.heap.objs.size) { s with heap := h', toks := tk }) :
  wpAny (model prog w) A (call (.type "dict") [.ref l]) Q E s := by
 refine callType_codes (Q₁ := fun obj s₁ => obj = .ref s.heap.objs.size /\ s₁ = { s with heap := s.heap.push { cls := .type "dict", data := .dict #[] } }) PySem.F.kt_called_dict (PySem.F.kt_typeCall_dict_1 _) PySem.F.entry_dict_init (kt_code_dict_new _ ⟨rfl, rfl⟩) ?_
 rintro obj s₁ ⟨rfl, rfl⟩
 have hnew : (s.heap.push { cls := .type "dict", data := .dict #[] }).DictOfH (tupleKind (mixKind prog w)) s.heap.objs.size [] := Heap.DictOfH.new s.heap
 have k0 : ∀ b o, s.heap.get? b = some o -> (s.heap.push { cls := .type "dict", data := .dict #[] }).get? b = some o := fun b o e => Heap.get?_push_of_some _ e
 have hty : Shared.TypeIs { s with heap := s.heap.push { cls := .type "dict", data := .dict #[] } } (.ref s.heap.objs.size) "dict" := Heap.DictOfH.typeIs (s := { s with heap := s.heap.push { cls := .type "dict", data := .dict #[] } }) hnew
 refine ⟨hty, PySem.F.args_dict_init_2 _ _, ?_⟩
 unfold Builtin.«dict.__init__»
 refine wpAny_bind ?_
 unfold Builtin.Dict.selfAndRest
 refine wpAny_bind (wpAny_notOrdered_dict hty ?_)
 show wpAny _ _ (pure (s.heap.objs.size, [Value.ref l])) _ _ _
 refine wpAny_pure ?_
 show wpAny _ _ (Builtin.Dict.updateFrom "dict.__init__" s.heap.objs.size (.ref l) [] .none) _ _ _
 unfold Builtin.Dict.updateFrom
 refine wpAny_bind (wpAny_typeOf (T := "list") ⟨ol, k0 _ _ hl, hc⟩ ?_)
 rw [if_pos (by first | decide | rfl | simp)]
 refine wpAny_bind (miss_list (k0 _ _ hl) hc hdat hd hh fun h1 tk1 hk1 => ?_)
 rw [if_pos (show (none : Option Value).isNone = true from rfl)]
 refine wpAny_bind (wpAny_rule ?_)
 have hl1 : h1.IsList l items := ⟨ol, hk1 _ _ (k0 _ _ hl), hc, n, hdat⟩
 have hS1 : s.heap.objs.size < h1.objs.size := by
  have e : (s.heap.push { cls := .type "dict", data := .dict #[] }).get? s.heap.objs.size = some { cls := .type "dict", data := .dict #[] } := Heap.get?_push_size _ rfl
  exact Heap.lt_size (hk1 _ _ e)
 refine wpAny_bind (wpAny_pyIter_list hl1 ?_)
 have k2 : ∀ b o, h1.get? b = some o -> (h1.push { cls := .type "list_iterator", data := .fields #[.ref l, .int 0 0] }).get? b = some o := fun b o e => Heap.get?_push_of_some _ e
 have hlt : l < s.heap.objs.size := Heap.lt_size hl
 have hu1 : A.in1.units + 1 < cLine := by
  have hx : A.in1.units <= A.units + 3 := by first | exact Nat.le_add_right A.units 3 | exact Nat.add_le_add_left (by decide : 1 <= 3) A.units | (unfold Around.in1; simp)
  exact Nat.lt_of_le_of_lt (Nat.add_le_add_right hx 1) hu
 have key := updT_loop (prog := prog) (w := w) (A := A.in1) (R := wants (fun r s₂ => r = .none /\ Q (.ref s.heap.objs.size) s₂) E) (S := s.heap.objs.size) (I := h1.objs.size) (l := l) (items := items) (res := Value.none) hh hu1
  (Nat.ne_of_lt (Nat.lt_trans hlt hS1)) (Nat.ne_of_lt hS1) (Nat.ne_of_gt hlt) prs 0 [] 0 0
  { s with heap := h1.push { cls := .type "list_iterator", data := .fields #[.ref l, .int 0 0] }, toks := tk1 } (by rw [hsz, Nat.zero_add]) (by rw [List.length_nil, Nat.zero_add]; exact hln)
  (fun j q e => by
   obtain ⟨b, e1, e2, e3⟩ := ht j q e
   have hb : b < s.heap.objs.size := e2.lt
   have hk : q.2.1 < s.heap.objs.size := by
    obtain ⟨o, its, n, h1, _⟩ := e3
    exact Heap.lt_size h1
   exact ⟨b, by rw [Nat.zero_add]; exact e1, Nat.ne_of_lt hb, Nat.ne_of_lt (Nat.lt_trans hb hS1), e2.keeps fun c o z => k2 _ _ (hk1 _ _ (k0 _ _ z)), key_stay e3 (fun o z => k2 _ _ (hk1 _ _ (k0 _ _ z))), Nat.ne_of_lt hk, Nat.ne_of_lt (Nat.lt_trans hk hS1)⟩)
  ⟨_, Heap.get?_push_size _ rfl, rfl, rfl⟩ (hl1.at fun o e => k2 _ _ e) (dictH_stay (dictH_stay hnew (fun o e => hk1 _ _ e) fun _ m => nomatch m) (fun o e => k2 _ _ e) fun _ m => nomatch m) (fun _ m => nomatch m)
  (fun h' tk hd' k => ⟨rfl, h h' tk hd' fun b o e => k b o (Nat.ne_of_lt (Heap.lt_size e)) (Nat.ne_of_lt (Nat.lt_trans (Heap.lt_size e) hS1)) (k2 _ _ (hk1 _ _ (k0 _ _ e)))⟩)
 first
  | exact wpAny_pure ⟨plainId_quiet ud_plain _, key⟩
  | exact wpAny_bind (wpAny_pure (wpAny_pure ⟨plainId_quiet ud_plain _, key⟩))
end
section
variable {X:Cx}
def PrT (K:W.Frag) (H:Hp) (p:Addr) (kv:List Key×V):Prop:=∃b,SqT K H p [.ref b,kv.2]/\H b=some (.tup (kv.1.map kV))
def mergeT (acc more:List (List Key×V)):List (List Key×V):=more.foldl (fun acc kv=>putK acc kv.1 kv.2) acc
theorem mergeT_len:∀(more acc:List (List Key×V)),(mergeT acc more).length<=acc.length+more.length
 | [],acc=>Nat.le_refl _
 |kv::more,acc=>by
  have:=mergeT_len more (putK acc kv.1 kv.2)
  have:=length_putK acc kv.1 kv.2
  rw [List.length_cons]
  show (mergeT (putK acc kv.1 kv.2) more).length<=_
  omega
theorem pairsT_of {pins:List (Addr×Obj)} {σ:L2.St} {H:Hp} {s:Shared} (I:L2.Inv X pins σ H s):∀{ps:List Addr} {kvs:List (List Key×V)},Paired (fun p kv=>PrT X.K H p kv) ps kvs->
  ∃prs:List (List Key×Addr×Value),KT H kvs prs/\prs.length=ps.length/\∀(j:Nat) (q:List Key×Addr×Value),prs[j]? =some q->∃b:Addr,ps[j]? =some b/\IsTup s.heap b #[.ref q.2.1,q.2.2]/\(tupleKind (mixKind X.prog X.w)).is s.heap q.1 q.2.1
 |_,_,.nil=>⟨[],.nil,rfl,fun j q e=>by simp at e⟩
 |_,_,.cons (a:=p) (b:=kv) ⟨bk,h,hk⟩ t=>by
  obtain ⟨prs,r,hl,hp⟩:=pairsT_of I t
  obtain ⟨its,rv,ht,_⟩:=I.tuple h
  obtain ⟨u,y,ei,ru,ry⟩:=vals2 rv
  subst ei
  cases (show u=Value.ref bk from ru)
  refine ⟨(kv.1,bk,y)::prs,.cons ⟨rfl,hk,ry⟩ r,by rw [List.length_cons,List.length_cons,hl],fun j q e=>?_⟩
  cases j with
  |zero=>
   have e':(kv.1,bk,y)=q:=Option.some.inj e
   subst e'
   exact ⟨p,rfl,ht,key_of I.hok hk⟩
  |succ j=>
   obtain ⟨b,e1,e2,e3⟩:=hp j q (by simpa using e)
   exact ⟨b,by simpa using e1,e2,e3⟩
theorem KT.merge {H:Hp}:∀{more:List (List Key×V)} {rs:List (List Key×Addr×Value)} {acc:List (List Key×V)} {xs:List (List Key×Addr×Value)},KT H more rs->KT H acc xs->KT H (mergeT acc more) (mergeH xs rs)
 |_,_,acc,xs,.nil,h=>h
 |kv::more,q::rs,acc,xs,.cons ⟨h1,h2,h3⟩ t,h=>by
  show KT H (mergeT (putK acc kv.1 kv.2) more) (mergeH (storedH xs q.1 q.2.1 q.2.2) rs)
  refine KT.merge t ?_
  rw [←h1]
  exact KT.put h kv.1 h2 h3
theorem call_dictT (hu:X.A.units+64 < cLine) (hcalm:X.calm=true):CallR X (.type "dict") (fun xs H Q=>∃(a:Addr) (ps:List Addr) (kvs:List (List Key×V)),xs= [.ref a]/\SqL X.K H a (ps.map V.ref)/\Paired (fun p kv=>PrT X.K H p kv) ps kvs/\
  ∀p,H p=none->Q (.ref p) (upd H p (.dT (mergeT [] kvs)))):=by
 intro pins s σ H xs us Q I r q
 obtain ⟨a,ps,kvs,ex,hq,hp,q⟩:=q
 subst ex
 obtain ⟨u,eu,rx⟩:=vals1 r
 subst eu
 cases rx
 obtain ⟨its,rv,pl,hz⟩:=I.list hq
 have ei:=refs_at rv
 subst ei
 rw [List.length_map] at hz
 obtain ⟨prs,rel,hl,hpr⟩:=pairsT_of I hp
 obtain ⟨o,n,ho,hc,hd,hdat⟩:=pl
 refine call_dict_pairsT (prs:=prs) (I.ok.hd hcalm) (by omega) ho hc hd hdat (by simp [hl]) (by rw [hl];exact hz) (fun j q' e=>?_) fun h' tk hd' k=>?_
 ·obtain ⟨b,e1,e2,e3⟩:=hpr j q' e
  exact ⟨b,by simp [e1],e2,e3⟩
 ·have hm:(s.heap.objs.size==sysModules)=false:=beq_eq_false_iff_ne.mpr (Nat.ne_of_gt I.big)
  have hlen:(mergeT [] kvs).length<=sizeLine:=by
   refine Nat.le_trans (mergeT_len kvs []) ?_
   rw [List.length_nil,Nat.zero_add,KT.len rel,hl]
   exact hz
  have fr:H s.heap.objs.size=none:=I.hok.fresh (Nat.le_refl _)
  obtain ⟨q1,es,ep,g1,g2,g3,g4,_,g5⟩:=hd'
  have kt:KT (upd H s.heap.objs.size (.dT (mergeT [] kvs))) (mergeT [] kvs) (mergeH [] prs):=(KT.merge rel .nil).keeps fun c ys ec=>by rw [upd_ne (ne_of_none ec fr)];exact ec
  exact ⟨.ref s.heap.objs.size,upd H s.heap.objs.size (.dT (mergeT [] kvs)),I.laid (t':=tk) k (Nat.le_refl _) (show ObjOk X.prog X.w _ _ _ (.dT (mergeT [] kvs)) from ⟨hlen,hm,mergeH [] prs,kt,q1,es,ep,g1,g2,g3,g4,g5⟩),rfl,q _ fr⟩
end
end XL
namespace Q
open PySem PySem.Spec PyProof.Rows L2 XL
open Quire (Sign Word Sig Gath Fate)
open QuireCopies (Line)
def kyS (s:Sig):List Key:= [.inl (s.times:Int),.inl (s.sign:Int)]
def knD (ks:List Sig):HO:= .dT (ks.map fun s=>(kyS s,V.bl true))
theorem kyS_inj {s z:Sig} (h:kyS s=kyS z):s=z:=by
 obtain ⟨a,b⟩:=s
 obtain ⟨c,d⟩:=z
 injection h with h1 h2
 injection h2 with h2 _
 injection h1 with h1
 injection h2 with h2
 have e1:(b:Int)=(d:Int):=h1
 have e2:(a:Int)=(c:Int):=h2
 rw [show b=d by omega,show a=c by omega]
theorem valV_sig {α:Type} (f:α->Sig) (g:α->V):∀(l:List α) (s:Sig),(valV (l.map fun x=>(kyS (f x),g x)) (kyS s))=(l.find? fun x=>decide (f x=s)).map g
 | [],s=>rfl
 |x::l,s=>by
  have ih:=valV_sig f g l s
  unfold valV at ih⊢
  rw [List.map_cons,List.find?_cons,List.find?_cons]
  by_cases h:f x=s
  ·rw [h];simp
  ·have h2:¬kyS (f x)=kyS s:=fun z=>h (kyS_inj z)
   simp only [h,h2,decide_false]
   exact ih
theorem known_val (ks:List Sig) (s:Sig):(valV (ks.map fun s=>(kyS s,V.bl true)) (kyS s))=if s∈ks then some (.bl true) else none:=by
 rw [valV_sig (fun s=>s) (fun _=>V.bl true)]
 by_cases h:s∈ks
 ·rw [if_pos h]
  cases hf:ks.find? fun x=>decide (x=s) with
  |none=>exact absurd (List.find?_eq_none.mp hf s h) (by simp)
  |some _=>rfl
 ·rw [if_neg h]
  cases hf:ks.find? fun x=>decide (x=s) with
  |none=>rfl
  |some x=>
   have:=List.find?_some hf
   simp at this
   exact absurd (this▸List.mem_of_find?_eq_some hf) h
section
variable {P:Program} {w:World} {K:W.Frag} {mg:Str->Option Value} {base:Heap} {a:Adr}
def spMK (a:Adr):Sp:=fun vs H Q E=>∃v kn ks,∃f:Nat,vs= [v,.ref kn,.int (f:Int)]/\H kn=some (knD ks)/\ks.length<=48/\
 ((v= .non/\Rz a E f)∨∃p s,v= .ref p/\H p=some (.tup (sgV s))/\if s∈ks∨ks.length=48 then Rz a E f else Q .non (upd H kn (knD (ks++ [s]))))
theorem ok_66 (T:Txt K mg a):FnOk P w K mg base (CXd P w) 3 a.f_66 a.d_66 ["signature","known","first"] (spMK a):=by
 refine okX T.u_66 sc_66 (fun vs H Q E h=>?_) (fun cdv A outer s H vs Q E hr h=>?_)
 ·obtain ⟨_,_,_,_,rfl,_⟩:=h;rfl
 ·obtain ⟨v,kn,ks,f,rfl,hk,hl,k⟩:=h
  refine ⟨_,(pss_cons (ps_if (PW.pt (pw_or (pt_cmpR op_isN (pv 0) pe_non (nomark _)) (pw_or (pt_cmp (pc_din (hu_of hr) (pv 0) (pv 1))) (pw_or1 (pt_cmpR op_eq (pe_callB call_lenT (by rfl) T.b_len PySem.boot_len (pa_cons (pv 1) pa_nil)) (g_47 T) (nomark _)))))) (pss_one (ps_raise T.xc_76 (ok_15 T) (rm hr) rfl T.m_76 (b_15 T) passD (pa_cons (pv 2) pa_nil))) pss_nil) (pss_one (ps_dput (hu_of hr) (pv 1) (pv 0) pe_bl rfl))),?_⟩
  walk_at "go0"
  rcases k with ⟨rfl,k⟩|⟨p,z,rfl,hp,k⟩
  ·refine R.tor ?_
   walk_at "go"
   refine ⟨rfl,R.bl (R.dif (fun _=>?_) (fun h=>absurd rfl h))⟩
   show if true=true then _ else _
   rw [if_pos rfl]
   walk_at "go"
   exact ⟨_,rfl,fun dx hx=>k _ _ upd_same⟩
  ·refine R.tor ?_
   walk_at "go"
   refine ⟨rfl,R.bl (R.dif (fun h=>nomatch h) (fun _=>?_))⟩
   refine R.tor ?_
   walk_at "go"
   refine ⟨.ref p,rfl,.ref kn,rfl,kn,_,rfl,DGet.t (k:=kyS z) hk hp,?_⟩
   rw [known_val]
   by_cases hm:z∈ks
   ·rw [if_pos (.inl hm)] at k
    rw [if_pos hm]
    refine R.bl ?_
    show if true=true then _ else _
    rw [if_pos rfl]
    show if true=true then _ else _
    rw [if_pos rfl]
    walk_at "go"
    exact ⟨_,rfl,fun dx hx=>k _ _ upd_same⟩
   ·rw [if_neg hm]
    refine R.bl ?_
    show if false=true then _ else _
    rw [if_neg Bool.false_ne_true]
    walk_at "go"
    refine ⟨kn,_,rfl,hk,?_⟩
    walk_at "go"
    refine R.dif (fun h=>?_) (fun h=>?_)<;>walk_at "go"
    ·have e:ks.length=48:=by
      injection h with h
      rw [List.length_map] at h
      omega
     rw [if_pos (.inr e)] at k
     exact ⟨_,rfl,fun dx hx=>k _ _ upd_same⟩
    ·have e:¬ks.length=48:=fun e=>h (by rw [List.length_map,e];rfl)
     rw [if_neg (by rintro (x|x)<;>first|exact hm x|exact e x)] at k
     refine ⟨.ref kn,rfl,.ref p,rfl,kn,_,rfl,DPut.t (k:=kyS z) hk hp (by rw [List.length_map];exact small1000 (by omega)),?_⟩
     rw [putK_new _ (by rw [known_val,if_neg hm])]
     have e2:(HO.dT ((ks.map fun s=>(kyS s,V.bl true))++ [(kyS z,V.bl true)]))=knD (ks++ [z]):=by
      unfold knD
      rw [List.map_append]
      rfl
     rw [e2]
     exact k
end
section
variable {P:Program} {w:World} {K:W.Frag} {mg:Str->Option Value} {base:Heap} {a:Adr}
def SigsAt (H:Hp) (l:List Sig) (ps:List Addr):Prop:=Paired (fun s p=>H p=some (.tup (sgV s))) l ps
def OutS (a:Adr) (c ch kn:Addr) (e:Nat) (ks:List Sig) (H:Hp) (Q:VK) (l:List Sig) (q:Nat):Prop:=
 ∀H' sl ps,CurAt a H' c ch q e->H' kn=some (knD (ks++l))->FrL [c,kn] H H'->H' sl=some (.lst (ps.map V.ref))->H sl=none->SigsAt H' l ps->Q (.ref sl) H'
def outS (a:Adr) (c ch kn:Addr) (e:Nat) (ks:List Sig) (H:Hp) (Q:VK) (E:XK) (r:Quire.Rd (List Sig)):Prop:=match r with
 | .error x=>Rz a E x
 | .ok (l,q,_)=>OutS a c ch kn e ks H Q l q
def spIS (a:Adr) (K:W.Frag):Sp:=fun vs H Q E=>∃c ch kn,∃p e:Nat,∃t ks,vs= [.ref c,.ref kn]/\CurAt a H c ch p e/\SqL K H ch (txV t)/\e<=t.length/\H kn=some (knD ks)/\ks.length<=48/\
 outS a c ch kn e ks H Q E (QM.sigsAt ks p (rest t p e))
def fwdS (a:Adr) (c ch kn:Addr) (e:Nat) (ks:List Sig) (H:Hp) (Q:VK) (E:XK) (x r:Nat) (acc:List Sig) (o:Option (List Sig)):Prop:=match o with
 |none=>Rz a E x
 |some l=>OutS a c ch kn e ks H Q (acc++l) r
theorem FrL.seqK {H H':Hp} {c ch ch' kn:Addr} {p e:Nat} {ks:List Sig} {xs:List V} (x:FrL [c,kn] H H') (hc:CurAt a H c ch' p e) (hk:H kn=some (knD ks)) (h:SqL K H ch xs):SqL K H' ch xs:=by
 obtain ⟨dx,hc⟩:=hc
 rcases h with (h|⟨ob,h⟩)|h
 ·refine .inl (.inl (x _ _ h ?_))
  simp only [List.mem_cons,List.not_mem_nil,or_false,not_or]
  exact ⟨(fun z=>by rw [z,hc] at h;cases h),fun z=>by rw [z,hk] at h;cases h⟩
 ·refine .inl (.inr ⟨ob,x _ _ h ?_⟩)
  simp only [List.mem_cons,List.not_mem_nil,or_false,not_or]
  exact ⟨(fun z=>by rw [z,hc] at h;cases h),fun z=>by rw [z,hk] at h;cases h⟩
 ·exact .inr h
theorem FrL.free {S:List Addr} {H H':Hp} (x:FrL S H H') {l:Addr} (n:l∉S) (h:H' l=none):H l=none:=by
 cases q:H l with
 |none=>rfl
 |some o=>rw [x l o q n] at h;cases h
theorem FrL.upd_in {S:List Addr} {H:Hp} {l:Addr} {o:HO} (m:l∈S):FrL S H (upd H l o):=fun b u e n=>by
 have ne:b≠l:=fun z=>n (by rw [z];exact m)
 rw [upd_ne ne];exact e
theorem sg_eq {s z:Sig} (h: [(s.times:Int),(s.sign:Int)]= [(z.times:Int),(z.sign:Int)]):s=z:=by
 obtain ⟨a,b⟩:=s
 obtain ⟨c,d⟩:=z
 injection h with h1 h2
 injection h2 with h2 _
 have e1:(b:Int)=(d:Int):=h1
 have e2:(a:Int)=(c:Int):=h2
 rw [show b=d by omega,show a=c by omega]
theorem ok_0 (T:Txt K mg a):FnOk P w K mg base (CXd P w) 5 a.f_0 a.d_0 ["cursor","known"] (spIS a K):=by
 refine okX T.u_0 sc_0 (fun vs H Q E h=>?_) (fun cdv A outer s H vs Q E hr h=>?_)
 ·obtain ⟨_,_,_,_,_,_,_,rfl,_⟩:=h;rfl
 ·obtain ⟨c,ch,kn,p,e,t,ks,rfl,⟨dx,hc⟩,hs,he,hk,hl,k⟩:=h
  refine ⟨_,(pss_cons (ps_set (i:=2) sc_0.nd rfl (Or.inl rfl) (pe_fld (pv 0) rfl)) (pss_cons (ps_set (i:=3) sc_0.nd rfl (Or.inl rfl) (pe_call (ok_19 T) (rm hr) rfl T.m_19 T.u_19.kp (b_19 T) .nil passD (pa_cons (pv 0) pa_nil))) (pss_cons (ps_expr (pe_call (ok_66 T) (rm hr) rfl T.m_66 T.u_66.kp (b_66 T) .nil passD (pa_cons (pv 3) (pa_cons (pv 1) (pa_cons (pv 2) pa_nil))))) (pss_cons (ps_set (i:=4) sc_0.nd rfl (Or.inl rfl) (pe_lst (pa_cons (pv 3) pa_nil))) (pss_cons (ps_if (pt_cmpR op_ne (pe_meth0 (pv 0) T.cl_150 T.me_42 (ok_42 T) (rm hr) (b_42 T) .nil passN) (g_163 T) (nomark _)) (pss_one (ps_ret (pv 4))) pss_nil) (pss_cons (ps_expr (pe_meth0 (pv 0) T.cl_150 T.me_43 (ok_43 T) (rm hr) (b_43 T) .nil passN)) (pss_cons (ps_set (i:=2) sc_0.nd rfl (Or.inl rfl) (pe_fld (pv 0) rfl)) (pss_cons (ps_set (i:=5) sc_0.nd rfl (Or.inl rfl) (pe_call (ok_19 T) (rm hr) rfl T.m_19 T.u_19.kp (b_19 T) .nil passD (pa_cons (pv 0) pa_nil))) (pss_cons (ps_if (pt_cmpR (op_eqD hr.units) (pv 3) (pv 5) (nomark _)) (pss_one (ps_raise T.xc_76 (ok_15 T) (rm hr) rfl T.m_76 (b_15 T) passD (pa_cons (pv 2) pa_nil))) pss_nil) (pss_cons (ps_while passOwnD (pt_cmpR (op_neD hr.units) (pv 3) (pv 5) (nomark _)) (pss_cons (ps_set (i:=3) sc_0.nd rfl (Or.inl rfl) (pe_call (ok_3 T) (rm hr) rfl T.m_3 T.u_3.kp (b_3 T) .nil passN (pa_cons (pv 3) pa_nil))) (pss_cons (ps_expr (pe_call (ok_66 T) (rm hr) rfl T.m_66 T.u_66.kp (b_66 T) .nil passD (pa_cons (pv 3) (pa_cons (pv 1) (pa_cons (pv 2) pa_nil))))) (pss_one (ps_expr (pe_bm PySem.F.plainAttrs_list PySem.F.slot_list_append PySem.F.type_list_append mt_append (pv 4) (pa_cons (pv 3) pa_nil))))))) (pss_one (ps_ret (pv 4))))))))))))),?_⟩
  have nck:kn≠c:=fun z=>by rw [z,hc] at hk;cases hk
  walk_at "go0"
  refine ⟨c,ch,p,e,t,rfl,⟨dx,hc⟩,hs,he,?_⟩
  unfold QM.sigsAt at k
  have eat:=QM.eats_sig p (rest t p e)
  cases hr1:Quire.sigAt p (rest t p e) with
  |error x=>rw [hr1] at k;exact k
  |ok y=>
   obtain ⟨s1,q,u⟩:=y
   obtain ⟨rfl,pq,eq⟩:=eats_rest he eat hr1
   rw [hr1] at k
   dsimp only at k
   have ok1:=QM.sig_ok hr1
   intro H1 hc1 (fr1:Fr c H H1) sp hsp
   have hs1:=fr1.seqC ⟨dx,hc⟩ hs
   have hk1:=fr1 _ _ hk nck
   obtain ⟨dx1,hc1⟩:=hc1
   walk_at "go"
   refine ⟨_,kn,ks,p,rfl,hk1,hl,.inr ⟨sp,s1,rfl,hsp,?_⟩⟩
   by_cases cs:s1∈ks∨ks.length=48
   ·rw [if_pos cs]
    rw [if_pos (show s1∈ks∨ks.length=Quire.GATHERINGS from cs)] at k
    exact k
   ·rw [if_neg cs]
    rw [if_neg (show ¬(s1∈ks∨ks.length=Quire.GATHERINGS) from cs)] at k
    have nl48:¬ks.length=48:=fun z=>cs (.inr z)
    have hsp2:(upd H1 kn (knD (ks++ [s1]))) sp=some (.tup (sgV s1)):=by rw [upd_ne (fun z=>by rw [z,hk1] at hsp;cases hsp)];exact hsp
    have hc2:(upd H1 kn (knD (ks++ [s1]))) c=some (.ins a.c_150 dx1 (curF ch q e)):=by rw [upd_ne (Ne.symm nck)];exact hc1
    have fr2:FrL [c,kn] H (upd H1 kn (knD (ks++ [s1]))):=(FrL.of_fr fr1 (by simp)).trans (FrL.upd_in (by simp))
    have hk2:(upd H1 kn (knD (ks++ [s1]))) kn=some (knD (ks++ [s1])):=upd_same
    generalize upd H1 kn (knD (ks++ [s1]))=H2 at hsp2 hc2 fr2 hk2⊢
    have hs2:=fr2.seqK ⟨dx,hc⟩ hk hs
    clear hs1 hk1 hc1 hsp fr1
    walk_at "go"
    refine ⟨by simp;decide,fun l hl0=>?_⟩
    have nw:=R.new_of (o:= .lst [V.ref sp]) hl0
    generalize upd H2 l (.lst [V.ref sp])=H3 at nw⊢
    obtain ⟨n1,h1,sm⟩:=nw
    have hsp3:=sm _ _ hsp2
    have hc3:=sm _ _ hc2
    have hk3:=sm _ _ hk2
    have hs3:=sm.seq hs2
    have fr3:FrL [c,kn] H H3:=fr2.trans fun b o hb _=>sm b o hb
    have nlc:l≠c:=fun z=>by rw [z,hc2] at n1;cases n1
    have nlk:l≠kn:=fun z=>by rw [z,hk2] at n1;cases n1
    have hn0:H l=none:=fr2.free (by simp [nlc,nlk]) n1
    walk_at "go"
    refine R.ne_ scal_ch (R.bl (R.nif (fun h=>?_) (fun h=>?_)))<;>walk_at "go"
    ·have hn:¬nowC t q e=some Quire.DASH:=fun z=>h ((chV_eq (n:=Quire.DASH)).mpr z)
     have k2:OutS a c ch kn e ks H Q [s1] q:=by
      cases hm:nowC t q e with
      |none=>rw [rest_none he hm] at k;exact k
      |some m=>
       rw [rest_now hm] at k
       unfold QM.tailS at k
       dsimp only at k
       rw [if_neg (fun z=>hn (by rw [hm,z]))] at k
       exact k
     exact k2 H3 l [sp] ⟨dx1,hc3⟩ hk3 fr3 h1 hn0 (.cons hsp3 .nil)
    ·have hn:nowC t q e=some Quire.DASH:=(chV_eq (n:=Quire.DASH)).mp h
     rw [rest_now hn] at k
     unfold QM.tailS at k
     dsimp only at k
     rw [if_pos rfl] at k
     refine ⟨c,ch,q,e,rfl,⟨dx1,hc3⟩,fun H4 hc4 (fr4:Fr c H3 H4)=>?_⟩
     have hs4:=fr4.seqC ⟨dx1,hc3⟩ hs3
     have hsp4:=fr4 _ _ hsp3 (fun z=>by rw [z,hc3] at hsp3;cases hsp3)
     have hk4:=fr4 _ _ hk3 nck
     have hl4:=fr4 _ _ h1 nlc
     obtain ⟨dx4,hc4⟩:=hc4
     walk_at "go"
     refine ⟨c,ch,q+1,e,t,rfl,⟨dx4,hc4⟩,hs4,he,?_⟩
     have eat2:=QM.eats_sig (q+1) (rest t (q+1) e)
     cases hr2:Quire.sigAt (q+1) (rest t (q+1) e) with
     |error x=>rw [hr2] at k;exact k
     |ok y=>
      obtain ⟨z,r,u⟩:=y
      obtain ⟨rfl,pq2,eq2⟩:=eats_rest he eat2 hr2
      rw [hr2] at k
      dsimp only at k
      intro H5 hc5 (fr5:Fr c H4 H5) zp hzp
      have hsp5:=fr5 _ _ hsp4 (fun z=>by rw [z,hc4] at hsp4;cases hsp4)
      have hk5:=fr5 _ _ hk4 nck
      have hl5:=fr5 _ _ hl4 nlc
      have fr05:FrL [c,kn] H H5:=(fr3.trans (FrL.of_fr fr4 (by simp))).trans (FrL.of_fr fr5 (by simp))
      obtain ⟨dx5,hc5⟩:=hc5
      walk_at "go"
      refine R.eqT [(s1.times:Int),(s1.sign:Int)] [(z.times:Int),(z.sign:Int)] (R.sqT_of hsp5) (R.sqT_of hzp) rfl rfl (R.bl (R.dif (fun h=>?_) (fun h=>?_)))<;>walk_at "go"
      ·have e1:s1=z:=sg_eq h
       unfold QM.btw at k
       rw [if_pos e1] at k
       exact ⟨_,rfl,fun dx hx=>k _ _ upd_same⟩
      ·have e1:¬s1=z:=fun y=>h (by rw [y])
       unfold QM.btw at k
       rw [if_neg e1] at k
       have k2:fwdS a c ch kn e ks H Q E (q+1) r [s1] (QM.fwd 48 (ks++ [s1]) s1 z):=by
        cases hf:QM.fwd 48 (ks++ [s1]) s1 z with
        |none=>rw [hf] at k;exact k
        |some l'=>rw [hf] at k;exact k
       clear k
       refine ⟨fun m σ' H'=>∃(sg:Sig) (sgp:Addr) (l':List Sig) (ps:List Addr),49<=l'.length+ks.length+m/\l'.length+ks.length<=48/\sg.ok=true/\σ'= [some (.ref c),some (.ref kn),some (.int ((q+1:Nat):Int)),some (.ref sgp),some (.ref l),some (.ref zp)]/\
        H' sgp=some (.tup (sgV sg))/\H' zp=some (.tup (sgV z))/\H' l=some (.lst (ps.map V.ref))/\SigsAt H' l' ps/\CurAt a H' c ch r e/\H' kn=some (knD (ks++l'))/\FrL [c,kn] H H'/\fwdS a c ch kn e ks H Q E (q+1) r l' (QM.fwd m (ks++l') sg z),
        ⟨48,s1,sp,[s1],[sp],(by rw [List.length_singleton];omega),(by rw [List.length_singleton];omega),ok1,rfl,hsp5,hzp,hl5,.cons hsp5 .nil,⟨dx5,hc5⟩,hk5,fr05,k2⟩,?_⟩
       clear k2 hsp5 hl5 hk5 hc5 fr05 hzp hsp4 hk4 hl4 hc4 hs4 hsp3 hc3 hk3 hs3 fr3 sm h1 hs2 hk2 fr2 hsp2 hc2
       rintro m σ' H' ⟨sg,sgp,l',ps,hm,hle,okg,rfl,hg,hz,hl6,hps,⟨dx6,hc6⟩,hk6,fr6,k⟩
       obtain ⟨m,rfl⟩:∃m',m=m'+1:=⟨m - 1,by omega⟩
       unfold QM.fwd at k
       walk_at "go"
       refine R.neT [(sg.times:Int),(sg.sign:Int)] [(z.times:Int),(z.sign:Int)] (R.sqT_of hg) (R.sqT_of hz) rfl rfl (R.bl (R.nif (fun h=>?_) (fun h=>?_)))
       ·rw [if_neg (fun e=>h (by rw [e]))] at k
        refine ⟨_,fun _ _ h=>h,?_⟩
        walk_at "go"
        refine ⟨sgp,sg,rfl,R.sqT_of hg,(QM.ok_times okg).1,?_⟩
        cases hn:sg.next with
        |none=>
         rw [hn] at k
         intro H7 sm7
         walk_at "go"
         exact ⟨_,kn,ks++l',q+1,rfl,sm7 _ _ hk6,(by rw [List.length_append];omega),.inl ⟨rfl,k⟩⟩
        |some y=>
         rw [hn] at k
         dsimp only at k
         intro yp H7 hy7 sm7
         have hk7:=sm7 _ _ hk6
         have hl7:=sm7 _ _ hl6
         have hc7:=sm7 _ _ hc6
         have hz7:=sm7 _ _ hz
         have fr7:FrL [c,kn] H H7:=fr6.trans fun b o hb _=>sm7 b o hb
         have hps7:SigsAt H7 l' ps:=R.paired_imp (fun _ _ hb=>sm7 _ _ hb) hps
         walk_at "go"
         refine ⟨_,kn,ks++l',q+1,rfl,hk7,by rw [List.length_append];omega,.inr ⟨yp,y,rfl,hy7,?_⟩⟩
         by_cases cy:y∈ks++l'∨(ks++l').length=48
         ·rw [if_pos cy]
          rw [if_pos (show y∈ks++l'∨(ks++l').length=Quire.GATHERINGS from cy)] at k
          exact k
         ·rw [if_neg cy]
          rw [if_neg (show ¬(y∈ks++l'∨(ks++l').length=Quire.GATHERINGS) from cy)] at k
          have n48:¬ks.length+l'.length=48:=fun z=>cy (.inr (by rw [List.length_append];exact z))
          have fr8:FrL [c,kn] H7 (upd H7 kn (knD (ks++l'++ [y]))):=FrL.upd_in (by simp)
          have hk8:(upd H7 kn (knD (ks++l'++ [y]))) kn=some (knD (ks++l'++ [y])):=upd_same
          have hl8:(upd H7 kn (knD (ks++l'++ [y]))) l=some (.lst (ps.map V.ref)):=by rw [upd_ne nlk];exact hl7
          have hc8:(upd H7 kn (knD (ks++l'++ [y]))) c=some (.ins a.c_150 dx6 (curF ch r e)):=by rw [upd_ne (Ne.symm nck)];exact hc7
          have tt8:∀b ys,H7 b=some (.tup ys)->(upd H7 kn (knD (ks++l'++ [y]))) b=some (.tup ys):=fun b ys hb=>by rw [upd_ne (fun z=>by rw [z,hk7] at hb;cases hb)];exact hb
          generalize upd H7 kn (knD (ks++l'++ [y]))=H8 at fr8 hk8 hl8 hc8 tt8⊢
          have hpl:ps.length=l'.length:=(Paired.length hps7).symm
          walk_at "go"
          refine ⟨.inl ⟨rfl,_,SqL.of hl8⟩,?_⟩
          walk_at "go"
          refine ⟨l,_,_,rfl,rfl,hl8,?_,?_⟩
          ·rw [List.length_map,sizeLine_eq]
           omega
          ·have ee:(HO.lst (ps.map V.ref++ [V.ref yp]))= .lst ((ps++ [yp]).map V.ref):=by rw [List.map_append];rfl
           rw [ee]
           have tt9:∀b ys,H8 b=some (.tup ys)->(upd H8 l (.lst ((ps++ [yp]).map V.ref))) b=some (.tup ys):=fun b ys hb=>by rw [upd_ne (fun z=>by rw [z,hl8] at hb;cases hb)];exact hb
           refine ⟨m,by omega,y,yp,l'++ [y],ps++ [yp],by rw [List.length_append,List.length_singleton];omega,by rw [List.length_append,List.length_singleton];omega,QM.next_ok hn okg,rfl,tt9 _ _ (tt8 _ _ hy7),tt9 _ _ (tt8 _ _ hz7),upd_same,?_,⟨dx6,by rw [upd_ne (Ne.symm nlc)];exact hc8⟩,by rw [upd_ne (Ne.symm nlk),←List.append_assoc];exact hk8,?_,?_⟩
           ·exact R.paired_snoc (R.paired_imp (fun _ _ hb=>tt9 _ _ (tt8 _ _ hb)) hps7) (tt9 _ _ (tt8 _ _ hy7))
           ·intro b o hb nb
            rw [upd_ne (ne_of_none hb hn0)]
            exact (fr7.trans fr8) b o hb nb
           ·rw [←List.append_assoc]
            cases hf:QM.fwd m (ks++l'++ [y]) y z with
            |none=>rw [hf] at k;exact k
            |some l2=>
             rw [hf] at k
             show OutS a c ch kn e ks H Q (l'++ [y]++l2) r
             rw [List.append_assoc]
             exact k
       ·rw [if_pos (sg_eq h)] at k
        walk_at "go"
        have k2:OutS a c ch kn e ks H Q (l'++ []) r:=k
        rw [List.append_nil] at k2
        exact k2 H' l ps ⟨dx6,hc6⟩ hk6 fr6 hl6 hn0 hps
end
end Q
namespace QM
open Quire
structure KOk (ks:List Sig):Prop where
 nd:ks.Nodup
 len:ks.length<=48
 ok:∀s∈ks,s.ok=true
theorem KOk.snoc {ks:List Sig} {s:Sig} (h:KOk ks) (o:s.ok=true) (n:¬(s∈ks∨ks.length=GATHERINGS)):KOk (ks++ [s]):=by
 have n1:s∉ks:=fun z=>n (.inl z)
 have n2:¬ks.length=48:=fun z=>n (.inr z)
 have hl:=h.len
 refine ⟨?_,by rw [List.length_append,List.length_singleton];omega,fun x hx=>?_⟩
 ·rw [List.nodup_append]
  refine ⟨h.nd,by simp,fun x hx y hy=>?_⟩
  rw [List.mem_singleton] at hy
  subst hy
  exact fun z=>n1 (z▸hx)
 ·rcases List.mem_append.mp hx with hx|hx
  ·exact h.ok x hx
  ·rw [List.mem_singleton] at hx
   rw [hx]
   exact o
theorem fwd_kok:∀{f:Nat} {ks:List Sig} {s z:Sig} {l:List Sig},KOk ks->s.ok=true->fwd f ks s z=some l->KOk (ks++l)
 |0,_,_,_,_,_,_,h=>by cases h
 |f+1,ks,s,z,l,hk,hs,h=>by
  unfold fwd at h
  split at h
  ·injection h with h;subst h;rw [List.append_nil];exact hk
  ·cases hn:s.next with
   |none=>rw [hn] at h;cases h
   |some y=>
    rw [hn] at h
    dsimp only at h
    split at h
    ·cases h
    ·rename_i hh
     have oy:=next_ok hn hs
     cases hf:fwd f (ks++ [y]) y z with
     |none=>rw [hf] at h;cases h
     |some r=>
      rw [hf] at h
      injection h with h
      subst h
      have:=fwd_kok (hk.snoc oy hh) oy hf
      rw [List.append_assoc] at this
      exact this
theorem sigs_kok {ks:List Sig} {p:Nat} {t:Text} {l:List Sig} {q:Nat} {u:Text} (hk:KOk ks) (h:sigsAt ks p t= .ok (l,q,u)):KOk (ks++l)/\l≠ []:=by
 unfold sigsAt at h
 cases hs:sigAt p t with
 |error e=>rw [hs] at h;cases h
 |ok y=>
  obtain ⟨s,q',u'⟩:=y
  rw [hs] at h
  dsimp only at h
  by_cases c:s∈ks∨ks.length=GATHERINGS
  ·rw [if_pos c] at h;cases h
  ·rw [if_neg c] at h
   have os:=sig_ok hs
   have k1:=hk.snoc os c
   cases u' with
   |nil=>
    injection h with h
    injection h with h _
    subst h
    exact ⟨k1,by simp⟩
   |cons x v=>
    unfold tailS at h
    dsimp only at h
    by_cases cd:x=DASH
    ·rw [if_pos cd] at h
     cases hz:sigAt (q'+1) v with
     |error e=>rw [hz] at h;cases h
     |ok y=>
      obtain ⟨z,r,w⟩:=y
      rw [hz] at h
      dsimp only at h
      cases hb:btw ks s z with
      |none=>rw [hb] at h;cases h
      |some l'=>
       rw [hb] at h
       injection h with h
       injection h with h _
       subst h
       unfold btw at hb
       split at hb
       ·cases hb
       ·cases hf:fwd 48 (ks++ [s]) s z with
        |none=>rw [hf] at hb;cases hb
        |some r=>
         rw [hf] at hb
         injection hb with hb
         subst hb
         have:=fwd_kok k1 os hf
         rw [List.append_assoc] at this
         exact ⟨this,by simp⟩
    ·rw [if_neg cd] at h
     injection h with h
     injection h with h _
     subst h
     exact ⟨k1,by simp⟩
theorem wf_regular {s:Sig} {n:Nat} (h:sizeOk n=true):Q.WF (regular s n):=
 ⟨List.length_replicate,List.length_replicate,h,fun w hw=>by rw [List.eq_of_mem_replicate hw];exact Nat.zero_le _⟩
theorem all_set_false {α:Type} {p:α->Bool} {x:α}:∀(l:List α) (k:Nat),k < l.length->p x=false->(l.set k x).all p=false
 | [],_,h,_=>absurd h (Nat.not_lt_zero _)
 |y::l,0,_,h=>by rw [List.set_cons_zero,List.all_cons,h];rfl
 |y::l,k+1,hk,h=>by
  rw [List.set_cons_succ,List.all_cons,all_set_false l k (by simpa using hk) h,Bool.and_false]
theorem note_plain {g h:Gath} {last p l q:Nat} {t u:Text} (wf:Q.WF g) (e:noteAt g last p t= .ok ((h,l),q,u)):h.plain=false:=by
 unfold noteAt at e
 have fl:=wf.fl
 have pl:=wf.pl
 cases hh:headAt p t with
 |error x=>rw [hh] at e;cases e
 |ok y=>
  obtain ⟨x,q',u'⟩:=y
  rw [hh] at e
  dsimp only at e
  split at e
  ·cases e
  ·rename_i hc
   have may:x.may g=true:=by
    cases hm:x.may g with
    |true=>rfl
    |false=>exact absurd (.inr hm) hc
   cases x with
   |lost k=>
    dsimp only at e
    injection e with e
    injection e with e1 e2
    injection e1 with e1 e3
    subst e1
    unfold Note.may at may
    simp only [Bool.and_eq_true,decide_eq_true_iff] at may
    unfold Gath.plain
    show ((g.fates.set (k - 1) .lost).all _&&_)=false
    rw [all_set_false _ _ (by omega) rfl]
    rfl
   |cut k=>
    dsimp only at e
    injection e with e
    injection e with e1 e2
    injection e1 with e1 e3
    subst e1
    unfold Note.may at may
    simp only [Bool.and_eq_true,decide_eq_true_iff] at may
    unfold Gath.plain
    show ((g.fates.set (k - 1) .cut).all _&&_)=false
    rw [all_set_false _ _ (by omega) rfl]
    rfl
   |put k=>
    dsimp only at e
    unfold Note.may at may
    simp only [decide_eq_true_iff] at may
    cases hp:putAt q' u' with
    |error x=>rw [hp] at e;cases e
    |ok y=>
     obtain ⟨w,q2,u2⟩:=y
     rw [hp] at e
     dsimp only at e
     split at e
     ·rename_i hw
      injection e with e
      injection e with e1 e2
      injection e1 with e1 e3
      subst e1
      unfold Gath.plain
      show (_&&(g.puts.set k w).all _)=false
      rw [all_set_false _ _ (by omega) (by cases w with|nil=>exact absurd rfl hw.2|cons _ _=>rfl),Bool.and_false]
     ·cases e
theorem notes_wf:∀{f:Nat} {g h:Gath} {last p q:Nat} {t u:Text},Q.WF g->notesAt f g last p t= .ok (h,q,u)->Q.WF h/\h.sig=g.sig/\h.size=g.size/\h.plain=false
 |0,_,_,_,_,_,_,_,_,h=>by cases h
 |f+1,g,h,last,p,q,t,u,wf,e=>by
  unfold notesAt at e
  cases hn:noteAt g last p t with
  |error x=>rw [hn] at e;cases e
  |ok y=>
   obtain ⟨⟨h1,l⟩,q1,u1⟩:=y
   rw [hn] at e
   dsimp only at e
   obtain ⟨w1,_,s1,z1⟩:=Q.note_wf wf hn
   cases u1 with
   |nil=>cases e
   |cons c v=>
    dsimp only at e
    split at e
    ·injection e with e
     injection e with e1 e2
     subst e1
     exact ⟨w1,s1,z1,note_plain wf hn⟩
    ·split at e
     ·cases e
     ·cases hc:charAt BLANK (q1+1) v with
      |error x=>rw [hc] at e;cases e
      |ok y=>
       obtain ⟨_,q2,u2⟩:=y
       rw [hc] at e
       dsimp only at e
       obtain ⟨w2,s2,z2,p2⟩:=notes_wf w1 e
       exact ⟨w2,s2.trans s1,z2.trans z1,p2⟩
end QM
namespace QM
open Quire
theorem eats_stay {α:Type} {v:α} {p:Nat} {l:Text}:Eats p l (.ok (v,p,l):Rd α):=⟨0,Nat.zero_le _,rfl,rfl⟩
theorem eats_one {α:Type} {r:Rd α} {p c:Nat} {l:Text} (h:Eats (p+1) l r):Eats p (c::l) r:=
 Eats.more (α:=Unit) (k:=1) (by simp) rfl rfl h
theorem eats_sigs (ks:List Sig) (p:Nat) (t:Text):Eats p t (sigsAt ks p t):=by
 unfold sigsAt
 have h1:=eats_sig p t
 cases hs:sigAt p t with
 |error e=>exact trivial
 |ok y=>
  obtain ⟨s,q,u⟩:=y
  obtain ⟨k,a1,a2,a3⟩:=h1.ok hs
  dsimp only
  split
  ·exact trivial
  ·refine Eats.more (α:=Unit) a1 a2 a3 ?_
   clear h1 hs a1 a2 a3
   cases u with
   |nil=>exact eats_stay
   |cons c v=>
    unfold tailS
    dsimp only
    split
    ·have h2:=eats_sig (q+1) v
     refine eats_one ?_
     cases hz:sigAt (q+1) v with
     |error e=>exact trivial
     |ok y=>
      obtain ⟨z,r,w⟩:=y
      dsimp only
      obtain ⟨k,a1,a2,a3⟩:=h2.ok hz
      cases btw ks s z with
      |none=>exact trivial
      |some l=>exact ⟨k,a1,a2,a3⟩
    ·exact eats_stay
theorem eats_notes:∀(f:Nat) (g:Gath) (last p:Nat) (t:Text),Eats p t (notesAt f g last p t)
 |0,_,_,_,_=>trivial
 |f+1,g,last,p,t=>by
  unfold notesAt
  have h1:=Q.eats_note g last p t
  cases hn:noteAt g last p t with
  |error x=>exact trivial
  |ok y=>
   obtain ⟨⟨h,l⟩,q,u⟩:=y
   dsimp only
   obtain ⟨k,a1,a2,a3⟩:=h1.ok hn
   refine Eats.more (α:=Unit) a1 a2 a3 ?_
   cases u with
   |nil=>exact trivial
   |cons c v=>
    dsimp only
    split
    ·exact eats_one eats_stay
    ·split
     ·exact trivial
     ·refine eats_one ?_
      have h2:=eats_char BLANK (q+1) v
      cases hc:charAt BLANK (q+1) v with
      |error x=>exact trivial
      |ok y=>
       obtain ⟨_,q2,u2⟩:=y
       dsimp only
       obtain ⟨k,b1,b2,b3⟩:=h2.ok hc
       exact Eats.more (α:=Unit) b1 b2 b3 (eats_notes f h l q2 u2)
def bodyI (l:List Sig) (r n:Nat) (v:Text):Rd Make:=match l,v with
 | [s],c::w=>if c=LEFT then (match notesAt (w.length+1) (regular s n) 0 (r+1) w with
   | .error e=> .error e
   | .ok (h,y,z)=>if PLACES < h.word.length∨hasLeaf h.word=false then .error r else .ok ([h],y,z))
  else .ok ([regular s n],r,c::w)
 |_,c::w=>if c=LEFT then .error r else .ok (l.map fun (x:Sig)=>regular x n,r,c::w)
 |_,[]=> .ok (l.map fun (x:Sig)=>regular x n,r,[])
def joinI (m:Make) (p:Nat) (x:Rd Make):Rd Make:=match x with
 | .error e=> .error e
 | .ok (a,r,v)=>match m.getLast?,a with
  |some x,y::_=>if follows x y=true then .error p else .ok (a,r,v)
  |_,_=> .ok (a,r,v)
theorem tailI_eq (m:Make) (p:Nat) (l:List Sig) (r n:Nat) (v:Text):tailI m p l r n v=joinI m p (bodyI l r n v):=by
 unfold tailI joinI bodyI
 cases v with
 |nil=>cases l with
  |nil=>rfl
  |cons s l=>cases l<;>rfl
 |cons c w=>cases l with
  |nil=>rfl
  |cons s l=>cases l<;>rfl
theorem eats_body (l:List Sig) (r n:Nat) (v:Text):Eats r v (bodyI l r n v):=by
 cases v with
 |nil=>
  cases l with
  |nil=>exact eats_stay
  |cons s l=>cases l<;>exact eats_stay
 |cons c w=>
  have gen:Eats r (c::w) (if c=LEFT then .error r else .ok (l.map fun (x:Sig)=>regular x n,r,c::w):Rd Make):=by
   split
   ·exact trivial
   ·exact eats_stay
  cases l with
  |nil=>exact gen
  |cons s l=>
   cases l with
   |cons x l=>exact gen
   |nil=>
    unfold bodyI
    dsimp only
    split
    ·refine eats_one ?_
     have h:=eats_notes (w.length+1) (regular s n) 0 (r+1) w
     cases hn:notesAt (w.length+1) (regular s n) 0 (r+1) w with
     |error e=>exact trivial
     |ok y=>
      obtain ⟨h1,y,z⟩:=y
      dsimp only
      obtain ⟨k,b1,b2,b3⟩:=h.ok hn
      split
      ·exact trivial
      ·exact ⟨k,b1,b2,b3⟩
    ·exact eats_stay
theorem eats_join {m:Make} {p r:Nat} {v:Text} {x:Rd Make} (h:Eats r v x):Eats r v (joinI m p x):=by
 unfold joinI
 cases x with
 |error e=>exact trivial
 |ok y=>
  obtain ⟨a,r2,v2⟩:=y
  dsimp only
  obtain ⟨k,b1,b2,b3⟩:=h.ok rfl
  split
  ·split
   ·exact trivial
   ·exact ⟨k,b1,b2,b3⟩
  ·exact ⟨k,b1,b2,b3⟩
theorem eats_item {m:Make} {p:Nat} {t:Text} (hl:m.length<=48):Eats p t (itemAt m p t):=by
 rw [item_eq hl]
 have h1:=eats_sigs (m.map Gath.sig) p t
 cases hs:sigsAt (m.map Gath.sig) p t with
 |error e=>exact trivial
 |ok y=>
  obtain ⟨l,q,u⟩:=y
  dsimp only
  obtain ⟨k,b1,b2,b3⟩:=h1.ok hs
  refine Eats.more (α:=Unit) b1 b2 b3 ?_
  have h2:=eats_number raisedDigit q u
  cases hn:number raisedDigit q u with
  |error e=>exact trivial
  |ok y=>
   obtain ⟨n,r,v⟩:=y
   dsimp only
   split
   ·exact trivial
   ·obtain ⟨k,c1,c2,c3⟩:=h2.ok hn
    refine Eats.more (α:=Unit) c1 c2 c3 ?_
    rw [tailI_eq]
    exact eats_join (eats_body l r n v)
end QM
namespace Q
open PySem PySem.Spec PyProof.Rows L2 XL
open Quire (Sign Word Sig Gath Fate)
open QuireCopies (Line)
def QX (a:Adr) (H:Hp) (z q:Addr) (g:Gath):Prop:=∃sg lv gp gs,(∃dx,H q=some (.ins a.c_157 dx (quiF sg lv gp (g.size:Int))))/\H sg=some (.tup (sgV g.sig))/\H lv=some (.lst (g.fates.map ftV))/\
 H gp=some (.lst (gs.map V.ref))/\Paired (fun w b=>H b=some (.lst (wdV w))/\b≠z) g.puts gs/\lv≠z/\gp≠z
def Book (a:Adr) (H:Hp) (z:Addr) (m:List Gath) (qs:List Addr):Prop:=Paired (fun g q=>QX a H z q g) m qs
def Av (a:Adr) (H:Hp) (z:Addr) (S:List Addr):Prop:=∀b∈S,(b=z/\∃xs,H b=some (.lst xs))∨(∃ch p e,CurAt a H b ch p e)∨(∃kvs,H b=some (.dT kvs))∨H b=none
theorem QX.is {a:Adr} {H:Hp} {z q:Addr} {g:Gath} (h:QX a H z q g):QIs a H q g:=by
 obtain ⟨sg,lv,gp,gs,h1,h2,h3,h4,h5,_⟩:=h
 exact ⟨sg,lv,gp,h1,h2,h3,gs,h4,R.paired_imp (fun _ _ x=>x.1) h5⟩
theorem QX.frame {a:Adr} {H H':Hp} {z q:Addr} {g:Gath} {S:List Addr} (h:QX a H z q g) (x:FrL S H H') (av:Av a H z S):QX a H' z q g:=by
 obtain ⟨sg,lv,gp,gs,⟨dx,h1⟩,h2,h3,h4,h5,n1,n2⟩:=h
 have key:∀b o,H b=some o->(b=z->∀xs,o≠ .lst xs)->(∀C d fs,o= .ins C d fs->C=a.c_157/\∃sg lv gp n,fs=quiF sg lv gp n)->(∀kvs,o≠ .dT kvs)->b∉S:=by
  intro b o e nz ni nd m
  rcases av b m with ⟨e1,xs,e2⟩|⟨ch,p,ee,d,e2⟩|⟨kvs,e2⟩|e2
  ·rw [e] at e2;injection e2 with e2;exact nz e1 xs e2
  ·rw [e] at e2
   injection e2 with e2
   obtain ⟨_,_,_,_,_,q⟩:=ni _ _ _ e2
   exact absurd q (by simp [curF,quiF])
  ·rw [e] at e2;injection e2 with e2;exact nd kvs e2
  ·rw [e] at e2;cases e2
 refine ⟨sg,lv,gp,gs,⟨dx,x _ _ h1 (key _ _ h1 (fun _ _ z=>nomatch z) (fun C d fs z=>?_) (fun _ z=>nomatch z))⟩,x _ _ h2 (key _ _ h2 (fun _ _ z=>nomatch z) (fun _ _ _ z=>nomatch z) (fun _ z=>nomatch z)),
  x _ _ h3 (key _ _ h3 (fun e=>absurd e n1) (fun _ _ _ z=>nomatch z) (fun _ z=>nomatch z)),x _ _ h4 (key _ _ h4 (fun e=>absurd e n2) (fun _ _ _ z=>nomatch z) (fun _ z=>nomatch z)),
  R.paired_imp (fun _ _ hb=>⟨x _ _ hb.1 (key _ _ hb.1 (fun e=>absurd e hb.2) (fun _ _ _ z=>nomatch z) (fun _ z=>nomatch z)),hb.2⟩) h5,n1,n2⟩
 injection z with z1 z2 z3
 exact ⟨z1.symm,sg,lv,gp,_,z3.symm⟩
theorem Book.frame {a:Adr} {H H':Hp} {z:Addr} {m:List Gath} {qs:List Addr} {S:List Addr} (h:Book a H z m qs) (x:FrL S H H') (av:Av a H z S):Book a H' z m qs:=R.paired_imp (fun _ _ hb=>QX.frame hb x av) h
theorem Book.same {a:Adr} {H H':Hp} {z:Addr} {m:List Gath} {qs:List Addr} (h:Book a H z m qs) (s:Same H H'):Book a H' z m qs:=Book.frame (S:= []) h (FrL.of_same s) (fun _ m=>nomatch m)
def MOk (m:List Gath):Prop:=∀g∈m,WF g/\g.sig.ok=true
theorem paired_map {α β γ:Type} {F:γ->β->Prop} {f:α->γ}:∀{l:List α} {m:List β},Paired (fun x b=>F (f x) b) l m->Paired F (l.map f) m
 |_,_,.nil=> .nil
 |_,_,.cons h t=> .cons h (paired_map t)
theorem paired_and {α β:Type} {F:α->β->Prop} {G:β->Prop}:∀{l:List α} {m:List β},Paired F l m->(∀b∈m,G b)->Paired (fun x b=>F x b/\G b) l m
 |_,_,.nil,_=> .nil
 |_,_,.cons h t,g=> .cons ⟨h,g _ (List.mem_cons_self ..)⟩ (paired_and t fun b hb=>g b (List.mem_cons_of_mem _ hb))
theorem paired_split {α β:Type} {F:α->β->Prop}:∀{l:List α} {x:α} {bs:List β},Paired F (l++ [x]) bs->∃bs' b,bs=bs'++ [b]/\Paired F l bs'/\F x b
 | [],_,_,.cons h .nil=>⟨[],_,rfl,.nil,h⟩
 |_::_,_,_,.cons h t=>by
  obtain ⟨bs',b,rfl,h1,h2⟩:=paired_split t
  exact ⟨_::bs',b,rfl,.cons h h1,h2⟩
theorem nil_or_snoc {α:Type} (l:List α):l= []∨∃m x,l=m++ [x]:=by
 rcases List.eq_nil_or_concat l with h|⟨m,x,h⟩
 ·exact .inl h
 ·exact .inr ⟨m,x,by rw [h,List.concat_eq_append]⟩
theorem paired_app {α β:Type} {F:α->β->Prop}:∀{l l':List α} {m m':List β},Paired F l m->Paired F l' m'->Paired F (l++l') (m++m')
 |_,_,_,_,.nil,h=>h
 |_,_,_,_,.cons h t,h'=> .cons h (paired_app t h')
theorem paired_drop {α β:Type} {F:α->β->Prop}:∀(l' l:List α) (k:Nat) {bs:List β},l.drop k=l'->Paired (fun i b=>∃s,l[i]? =some s/\F s b) (List.range' k l'.length) bs->Paired F l' bs
 | [],_,_,_,_,.nil=> .nil
 |x::l',l,k,_,e,.cons ⟨s,h1,h2⟩ t=>by
  have e1:l[k]? =some x:=by
   have:(l.drop k)[0]? =some x:=by rw [e];rfl
   rw [List.getElem?_drop] at this
   exact this
  rw [e1] at h1
  injection h1 with h1
  subst h1
  refine .cons h2 (paired_drop l' l (k+1) ?_ t)
  have:(l.drop k).drop 1=l':=by rw [e];rfl
  rw [List.drop_drop] at this
  exact this
theorem paired_range {α β:Type} {F:α->β->Prop} {l:List α} {bs:List β} (h:Paired (fun i b=>∃s,l[i]? =some s/\F s b) (List.range l.length) bs):Paired F l bs:=paired_drop l l 0 rfl (by rw [←List.range_eq_range'];exact h)
theorem paired_get {α β:Type} {F:α->β->Prop}:∀{l:List α} {bs:List β} {i:Nat} {x:α},Paired F l bs->l[i]? =some x->∃b,bs[i]? =some b/\F x b
 |_,_,0,_,.cons h t,e=>by injection e with e;subst e;exact ⟨_,rfl,h⟩
 |_,_,i+1,_,.cons h t,e=>paired_get (i:=i) t e
theorem paired_get2 {α β:Type} {F:α->β->Prop}:∀{l:List α} {bs:List β} {i:Nat} {b:β},Paired F l bs->bs[i]? =some b->∃x,l[i]? =some x/\F x b
 |_,_,0,_,.cons h t,e=>by injection e with e;subst e;exact ⟨_,rfl,h⟩
 |_,_,i+1,_,.cons h t,e=>paired_get2 (i:=i) t e
def QN (a:Adr) (H0 H:Hp) (D x:Addr) (s:Sig) (n:Nat):Prop:=∃sg lv gp gs,(∃dx,H x=some (.ins a.c_157 dx (quiF sg lv gp (n:Int))))/\H sg=some (.tup (sgV s))/\H lv=some (.lst ((List.replicate n Fate.kept).map ftV))/\
 H gp=some (.lst (gs.map V.ref))/\Paired (fun w b=>H b=some (.lst (wdV w))/\b≠D/\H0 b=none) (List.replicate (n+1) []) gs/\x≠D/\sg≠D/\lv≠D/\gp≠D/\H0 x=none/\H0 lv=none/\H0 gp=none
theorem QN.frD {a:Adr} {H0 H H':Hp} {D x:Addr} {s:Sig} {n:Nat} (h:QN a H0 H D x s n) (f:R.FrD D H H'):QN a H0 H' D x s n:=by
 obtain ⟨sg,lv,gp,gs,⟨dx,h1⟩,h2,h3,h4,h5,n1,n2,n3,n4,n5⟩:=h
 exact ⟨sg,lv,gp,gs,⟨dx,f _ _ n1 h1⟩,f _ _ n2 h2,f _ _ n3 h3,f _ _ n4 h4,R.paired_imp (fun _ _ hb=>⟨f _ _ hb.2.1 hb.1,hb.2⟩) h5,n1,n2,n3,n4,n5⟩
theorem QN.qx {a:Adr} {H0 H:Hp} {D x z:Addr} {s:Sig} {n:Nat} {o:HO} (h:QN a H0 H D x s n) (hz:H0 z=some o):QX a H z x (Quire.regular s n):=by
 obtain ⟨sg,lv,gp,gs,h1,h2,h3,h4,h5,n1,n2,n3,n4,m1,m2,m3⟩:=h
 exact ⟨sg,lv,gp,gs,h1,h2,h3,h4,R.paired_imp (fun _ _ hb=>⟨hb.1,(ne_of_none hz hb.2.2).symm⟩) h5,(ne_of_none hz m2).symm,(ne_of_none hz m3).symm⟩
section
variable {P:Program} {w:World} {K:W.Frag} {mg:Str->Option Value} {base:Heap} {a:Adr}
def outI (a:Adr) (c ch kn ql:Addr) (e:Nat) (m:List Gath) (qs:List Addr) (H:Hp) (Q:VK) (E:XK) (r:Quire.Rd Quire.Make):Prop:=match r with
 | .error x=>Rz a E x
 | .ok (add,q,_)=>∀H' qs',CurAt a H' c ch q e->H' kn=some (knD ((m++add).map Gath.sig))->H' ql=some (.lst ((qs++qs').map V.ref))->Book a H' ql (m++add) (qs++qs')->MOk add->FrL [c,kn,ql] H H'->Q .non H'
def spRI (a:Adr) (K:W.Frag):Sp:=fun vs H Q E=>∃c ch kn ql,∃p e:Nat,∃t m qs,vs= [.ref c,.ref ql,.ref kn]/\CurAt a H c ch p e/\SqL K H ch (txV t)/\Sep K ch [ql] t/\e<=t.length/\t.length<=30000/\H kn=some (knD (m.map Gath.sig))/\QM.KOk (m.map Gath.sig)/\
 H ql=some (.lst (qs.map V.ref))/\Book a H ql m qs/\MOk m/\outI a c ch kn ql e m qs H Q E (Quire.itemAt m p (rest t p e))
def joinsB (m:List Gath) (l:List Sig) (n:Nat):Bool:=match m.getLast?,l with
 |some x,s::_=>Quire.follows x (Quire.regular s n)
 |_,_=>false
theorem joinI_eq (m:List Gath) (l:List Sig) (n p r:Nat) (u:List Nat):QM.joinI m p (.ok (l.map fun s=>Quire.regular s n,r,u))=if joinsB m l n=true then .error p else .ok (l.map fun s=>Quire.regular s n,r,u):=by
 unfold QM.joinI joinsB
 cases m.getLast? with
 |none=>cases l<;>rfl
 |some x=>cases l<;>rfl
theorem ext_item {c ch kn ql D:Addr} {q e:Nat} {m add:List Gath} {qs xs:List Addr} {u:List Nat} {H H5:Hp} {Q:VK} {E:XK} (k:outI a c ch kn ql e m qs H Q E (.ok (add,q,u)))
  (hc:CurAt a H5 c ch q e) (hk:H5 kn=some (knD ((m++add).map Gath.sig))) (hq:H5 ql=some (.lst (qs.map V.ref))) (hD:H5 D=some (.lst (xs.map V.ref))) (hb:Book a H5 ql m qs) (hx:Book a H5 ql add xs) (mo:MOk add) (fr:FrL [c,kn,ql] H H5) (le:qs.length+xs.length<=100) (nD:D≠ql):
  tyV K "list" (.ref ql) H5/\rExtend (.ref ql) [.ref D] H5 (fun _ H'=>Q .non H'):=by
 have nlc:ql≠c:=fun z=>by obtain ⟨_,hc⟩:=hc;rw [z,hc] at hq;cases hq
 have nlk:ql≠kn:=fun z=>by rw [z,hk] at hq;cases hq
 refine ⟨.inl ⟨rfl,_,SqL.of hq⟩,ql,D,_,_,rfl,rfl,hq,hD,by rw [List.length_map,List.length_map,sizeLine_eq];omega,?_⟩
 have f:FrL [ql] H5 (upd H5 ql (.lst (qs.map V.ref++xs.map V.ref))):=FrL.upd_in (by simp)
 have av:Av a H5 ql [ql]:=(by
  intro b hb
  rw [List.mem_singleton] at hb
  subst hb
  exact .inl ⟨rfl,_,hq⟩)
 refine k _ xs ?_ ?_ ?_ (paired_app (hb.frame f av) (hx.frame f av)) mo (fr.trans (f.mono (by simp)))
 ·obtain ⟨d,hc⟩:=hc
  exact ⟨d,by rw [upd_ne (Ne.symm nlc)];exact hc⟩
 ·rw [upd_ne (Ne.symm nlk)];exact hk
 ·rw [upd_same,List.map_append]
theorem ok_80 (T:Txt K mg a):FnOk P w K mg base (CXd P w) 9 a.f_80 a.d_80 ["cursor","quires","known"] (spRI a K):=by
 refine okX T.u_80 sc_80 (fun vs H Q E h=>?_) (fun cdv A outer s H vs Q E hr h=>?_)
 ·obtain ⟨_,_,_,_,_,_,_,_,_,rfl,_⟩:=h;rfl
 ·obtain ⟨c,ch,kn,ql,p,e,t,m,qs,rfl,⟨dx,hc⟩,hs,ncl,he,htl,hk,kok,hq,hb,mok,k⟩:=h
  refine ⟨_,(pss_cons (ps_set (i:=3) sc_80.nd rfl (Or.inl rfl) (pe_fld (pv 0) rfl)) (pss_cons (ps_set (i:=4) sc_80.nd rfl (Or.inl rfl) (pe_call (ok_0 T) (rm hr) rfl T.m_0 T.u_0.kp (b_0 T) .nil passD (pa_cons (pv 0) (pa_cons (pv 2) pa_nil)))) (pss_cons (ps_set (i:=5) sc_80.nd rfl (Or.inr rfl) (pe_call (ok_82 T) (rm hr) rfl T.m_82 T.u_82.kp (b_82 T) .nil passD (pa_cons (pv 0) pa_nil))) (pss_cons (ps_setLc (i:=6) rfl sc_80.nd rfl rfl rfl (pi_list (pv 4)) (blkOk_by (own:= [("signature",7)]) rfl) (fun _ _ _ _ _=>(pg_name (i:=7) sc_80.nd rfl (Or.inl rfl))) (fun _ _ _ _ _=>pts_nil) (fun _ _ _ _ _=>(pe_make T.mk_157 (ok_60 T) (rm hr) rfl T.m_157 (b_60 T) .nil passN (pa_cons (pv 7) (pa_cons (pv 5) pa_nil))))) (pss_cons (ps_if (pt_cmpR op_eq (pe_meth0 (pv 0) T.cl_150 T.me_42 (ok_42 T) (rm hr) (b_42 T) .nil passN) (g_165 T) (nomark _)) (pss_cons (ps_if (pt_cmpR op_gt (pe_callB call_len_seq (by rfl) T.b_len PySem.boot_len (pa_cons (pv 6) pa_nil)) pe_int (nomark _)) (pss_one (ps_raise T.xc_76 (ok_15 T) (rm hr) rfl T.m_76 (b_15 T) passD (pa_cons (pe_fld (pv 0) rfl) pa_nil))) pss_nil) (pss_one (ps_expr (pe_call (ok_70 T) (rm hr) rfl T.m_70 T.u_70.kp (b_70 T) .nil passD (pa_cons (pv 0) (pa_cons (pe_ix ix_list (pv 6) pe_int (fun _ _=>rfl)) pa_nil)))))) (pss_one (ps_if (PW.pt (pw_and (pt_truth (pv 1) (fun _=>rfl)) (pw_and1 (pt_truth (pe_call (ok_162 T) (rm hr) rfl T.m_162 T.u_162.kp (b_162 T) .nil passN (pa_cons (pe_ix ix_list (pv 1) (pe_un un_neg pe_int) (fun _ _=>rfl)) (pa_cons (pe_ix ix_list (pv 6) pe_int (fun _ _=>rfl)) pa_nil))) (fun _=>rfl))))) (pss_one (ps_raise T.xc_76 (ok_15 T) (rm hr) rfl T.m_76 (b_15 T) passD (pa_cons (pv 3) pa_nil))) pss_nil))) (pss_one (ps_expr (pe_bm PySem.F.plainAttrs_list PySem.F.slot_list_extend PySem.F.type_list_extend mt_extend (pv 1) (pa_cons (pv 6) pa_nil))))))))),?_⟩
  have ml:m.length<=48:=by have:=kok.len;rw [List.length_map] at this;exact this
  have nck:kn≠c:=fun z=>by rw [z,hc] at hk;cases hk
  have nlk:ql≠kn:=fun z=>by rw [z,hk] at hq;cases hq
  have nlc:ql≠c:=fun z=>by rw [z,hc] at hq;cases hq
  rw [QM.item_eq ml] at k
  walk_at "go0"
  refine ⟨c,ch,kn,p,e,t,m.map Gath.sig,rfl,⟨dx,hc⟩,hs,he,hk,kok.len,?_⟩
  have eat:=QM.eats_sigs (m.map Gath.sig) p (rest t p e)
  cases hr1:QM.sigsAt (m.map Gath.sig) p (rest t p e) with
  |error x=>rw [hr1] at k;exact k
  |ok y=>
   obtain ⟨l,q,u⟩:=y
   obtain ⟨rfl,pq,eq⟩:=eats_rest he eat hr1
   rw [hr1] at k
   dsimp only at k
   obtain ⟨kok1,lne⟩:=QM.sigs_kok kok hr1
   intro H1 sl ps hc1 hk1 fr1 hsl hsl0 hps
   have hs1:=fr1.seqK ⟨dx,hc⟩ hk hs
   have hq1:=fr1 _ _ hq (by simp [nlk,nlc])
   have hb1:Book a H1 ql m qs:=hb.frame fr1 (by
    intro b hb
    simp only [List.mem_cons,List.not_mem_nil,or_false] at hb
    rcases hb with rfl|rfl
    ·exact .inr (.inl ⟨_,_,_,_,hc⟩)
    ·exact .inr (.inr (.inl ⟨_,hk⟩)))
   walk_at "go"
   refine ⟨c,ch,q,e,t,rfl,hc1,hs1,he,?_⟩
   have eat2:=QM.eats_number Quire.raisedDigit q (rest t q e)
   cases hr2:Quire.number Quire.raisedDigit q (rest t q e) with
   |error x=>rw [hr2] at k;exact k
   |ok y=>
    obtain ⟨n,r,v⟩:=y
    obtain ⟨rfl,pr,er⟩:=eats_rest he eat2 hr2
    rw [hr2] at k
    dsimp only at k⊢
    cases hz:Quire.sizeOk n with
    |false=>rw [hz] at k;exact k
    |true=>
     rw [hz] at k
     rw [if_neg (by simp)] at k⊢
     obtain ⟨d1,hc1'⟩:=id hc1
     intro H2 hc2 (fr2:Fr c H1 H2)
     have hs2:=fr2.seqC hc1 hs1
     have hk2:=fr2 _ _ hk1 nck
     have hq2:=fr2 _ _ hq1 nlc
     have hsl2:=fr2 _ _ hsl (fun z=>by rw [z,hc1'] at hsl;cases hsl)
     have hps2:SigsAt H2 l ps:=R.paired_imp (fun _ _ hb=>fr2 _ _ hb (fun z=>by rw [z,hc1'] at hb;cases hb)) hps
     have hb2:Book a H2 ql m qs:=hb1.frame (S:= [c]) (FrL.of_fr fr2 (by simp)) (by
      intro b hb
      rw [List.mem_singleton] at hb
      subst hb
      exact .inr (.inl ⟨_,_,_,hc1⟩))
     walk_at "go"
     refine R.kil (SqL.of hsl2) ?_
     have pl:ps.length=l.length:=(Paired.length hps2).symm
     have n20:=(size_le hz).2
     have ll:l.length<=48:=by have:=kok1.len;rw [List.length_append] at this;omega
     refine R.lc_gen l.length (fun _=>true) (fun i x _=>(ps.map V.ref)[i]? =some x) (fun D i y H=>∃x,y= .ref x/\∃s,l[i]? =some s/\QN a H2 H D x s n)
      (fun D i y H H' f h=>?_) (by rw [sizeLine_eq];omega) (by rw [←pl];have:=R.itl_go (SqL.of (K:=K) hsl2);rw [List.length_map] at this;exact this) (by rw [←pl];have:=R.itl_stop (SqL.of (K:=K) hsl2);rw [List.length_map] at this;exact this)
      (by rw [←pl];have:=R.itl_yld (SqL.of (K:=K) hsl2);rw [List.length_map] at this;exact this) (fun i y H4 D Y Z hi sm hD hacc yr yes no=>?_) (fun D ys H3 hD hys sm hp=>?_)
     ·obtain ⟨x,e1,s,e2,e3⟩:=h
      exact ⟨x,e1,s,e2,e3.frD f⟩
     ·obtain ⟨acc,hacc⟩:=hacc
      obtain ⟨s,hsi⟩:∃s,l[i]? =some s:=⟨l[i],List.getElem?_eq_getElem hi⟩
      obtain ⟨pi,hpi,hpt⟩:=paired_get hps2 hsi
      rw [List.getElem?_map,hpi] at yr
      injection yr with yr
      subst yr
      have hpt4:=sm _ _ hpt
      refine ⟨rfl,?_⟩
      refine ⟨.ref pi,rfl,.int (n:Int),rfl,fun x dx hx hdx nd=>?_⟩
      have old:∀b o,H4 b=some o->(upd (upd H4 dx (.own x)) x (.ins a.c_157 dx [])) b=some o:=fun b o e=>by rw [upd_ne (ne_of_none e hx),upd_ne (ne_of_none e hdx)];exact e
      have nn:∀b,(upd (upd H4 dx (.own x)) x (.ins a.c_157 dx [])) b=none->H2 b=none:=fun b e=>by
       cases q:H2 b with
       |none=>rfl
       |some o=>rw [old b o (sm _ _ q)] at e;cases e
      refine ⟨x,dx,pi,n,rfl,upd_same,by rw [old _ _ hpt4];simp,n20,fun H5 lv gp gs g1 g2 g3 g4 g5 g6 g7=>⟨rfl,?_⟩⟩
      have sm5:Same H4 H5:=fun b o e=>g7 b o (old b o e) (ne_of_none e hx)
      have nDb:∀b,(upd (upd H4 dx (.own x)) x (.ins a.c_157 dx [])) b=none->b≠D:=fun b e z=>by rw [z,old _ _ hacc] at e;cases e
      refine yes _ _ sm5 rfl ⟨x,rfl,s,hsi,pi,lv,gp,gs,⟨dx,g1⟩,sm5 _ _ hpt4,g2,g3,R.paired_imp (fun _ b hb=>⟨hb.1,nDb b hb.2,nn b hb.2⟩) g4,(ne_of_none hacc hx).symm,?_,nDb _ g5,nDb _ g6,sm.free hx,nn _ g5,nn _ g6⟩
      intro z
      rw [z,hacc] at hpt4
      cases hpt4
     ·rw [List.filter_eq_self.mpr (fun _ _=>rfl)] at hp
      obtain ⟨xs,rfl,hx⟩:=paired_refs (F:=fun i x=>∃s,l[i]? =some s/\QN a H2 H3 D x s n) hp
      have hx:=paired_range hx
      clear hp
      obtain ⟨d2,hc2'⟩:=id hc2
      have hc3:=sm _ _ hc2'
      have hs3:=sm.seq hs2
      have hk3:=sm _ _ hk2
      have hq3:=sm _ _ hq2
      have hb3:Book a H3 ql m qs:=hb2.same sm
      have xl:xs.length=l.length:=(Paired.length hx).symm
      walk_at "go"
      rw [QM.tailI_eq] at k
      have qsl:qs.length=m.length:=(Paired.length hb).symm
      have fr3:FrL [c,kn,ql] H H3:=((fr1.mono (by simp)).trans (FrL.of_fr fr2 (by simp))).trans (FrL.of_same sm)
      have nDl:D≠ql:=(ne_of_none hq2 hD).symm
      have bx:Book a H3 ql (l.map fun s=>Quire.regular s n) xs:=paired_map (R.paired_imp (fun _ _ h=>h.qx hq2) hx)
      have sigm:∀l:List Sig,(l.map fun s=>Quire.regular s n).map Gath.sig=l:=fun l=>by
       rw [List.map_map]
       exact List.map_id l
      have okl:∀s∈l,s.ok=true:=fun s hs=>kok1.ok s (List.mem_append_right _ hs)
      have mreg:MOk (l.map fun s=>Quire.regular s n):=fun g hg=>by
       obtain ⟨s,hs,rfl⟩:=List.mem_map.mp hg
       exact ⟨QM.wf_regular hz,okl s hs⟩
      refine R.eq_ scal_ch (R.bl (R.dif (fun h=>?_) (fun h=>?_)))<;>walk_at "go"
      ·have hn:nowC t r e=some Quire.LEFT:=(chV_eq (n:=Quire.LEFT)).mp h
       rw [rest_now hn] at k
       refine ⟨D,_,rfl,.inl (SqL.of hys),?_⟩
       walk_at "go"
       refine R.dif (fun h2=>?_) (fun h2=>?_)<;>walk_at "go"
       ·have k2:Rz a E r:=by
         rw [List.length_map,xl] at h2
         match l,lne,h2,k with
         | [],lne,_,_=>exact absurd rfl lne
         | [_],_,h2,_=>exact absurd h2 (by simp)
         |x::y::l,_,_,k=>exact k
        exact ⟨_,rfl,fun dx2 hd=>k2 _ _ upd_same⟩
       ·obtain ⟨s,rfl⟩:∃s,l= [s]:=by
         rw [List.length_map,xl] at h2
         match l,lne,h2 with
         | [],lne,_=>exact absurd rfl lne
         | [s],_,_=>exact ⟨s,rfl⟩
         |x::y::l,_,h2=>exact absurd h2 (by simp;omega)
        obtain ⟨x,rfl⟩:∃x,xs= [x]:=by
         match xs,xl with
         | [x],_=>exact ⟨x,rfl⟩
        cases hx with
        |cons hx _=>
        obtain ⟨sg,lv,gp,gs,⟨dq,g1⟩,g2,g3,g4,g5,m1,m2,m3,m4,m5,m6,m7⟩:=hx
        refine R.ixl (SqL.of hys) (atI_nat (j:=0) rfl) ?_
        walk_at "go"
        have nxc:x≠c:=fun z=>by rw [z,hc2'] at m5;cases m5
        have wf0:WF (Quire.regular s n):=QM.wf_regular hz
        have sep2:Sep K ch [lv,gp] t:=Sep.of hs2 (fun b hb=>by
         simp only [List.mem_cons,List.not_mem_nil,or_false] at hb
         rcases hb with rfl|rfl
         ·exact .inl m6
         ·exact .inl m7)
        refine ⟨c,ch,x,sg,lv,gp,r,e,t,Quire.regular s n,rfl,⟨d2,hc3⟩,hs3,sep2,he,htl,hn,⟨⟨dq,g1⟩,g2,g3,gs,g4,R.paired_imp (fun _ _ hb=>hb.1) g5⟩,wf0,nxc,?_⟩
        unfold notesOf
        unfold QM.bodyI at k
        dsimp only at k
        rw [if_pos rfl] at k
        cases hr5:Quire.notesAt ((rest t (r+1) e).length+1) (Quire.regular s n) 0 (r+1) (rest t (r+1) e) with
        |error x=>rw [hr5] at k;exact k
        |ok y=>
         obtain ⟨g',z',u'⟩:=y
         rw [hr5] at k
         dsimp only at k⊢
         obtain ⟨wf',sg',sz',pl'⟩:=QM.notes_wf wf0 hr5
         by_cases hw:Quire.PLACES < g'.word.length∨Quire.hasLeaf g'.word=false
         ·rw [if_pos hw] at k⊢
          exact k
         ·rw [if_neg hw] at k⊢
          have k2:outI a c ch kn ql e m qs H Q E (.ok ([g'],z',u')):=by
           unfold QM.joinI at k
           dsimp only at k
           cases hm:m.getLast? with
           |none=>rw [hm] at k;exact k
           |some y=>
            rw [hm] at k
            dsimp only at k
            have nf:¬Quire.follows y g'=true:=by
             unfold Quire.follows
             rw [pl']
             simp
            rw [if_neg nf] at k
            exact k
          intro H5 hc5 hQ5 fr5 kg5
          have nkl:∀b o,H2 b=some o->b≠c->H5 b=some o:=fun b o e nc=>fr5 b o (sm _ _ e) (by
           simp only [List.mem_cons,List.not_mem_nil,or_false,not_or]
           exact ⟨nc,ne_of_none e m6,ne_of_none e m7⟩)
          have hq5:=nkl _ _ hq2 nlc
          have hk5:=nkl _ _ hk2 nck
          have hD5:=fr5 _ _ hys (by
           simp only [List.mem_cons,List.not_mem_nil,or_false,not_or]
           exact ⟨(fun z=>by rw [z,hc3] at hys;cases hys),Ne.symm m3,Ne.symm m4⟩)
          have hb5:Book a H5 ql m qs:=hb2.frame (S:= [c,lv,gp]) (fun b o e n=>fr5 b o (sm _ _ e) n) (by
           intro b hb
           simp only [List.mem_cons,List.not_mem_nil,or_false] at hb
           rcases hb with rfl|rfl|rfl
           ·exact .inr (.inl ⟨_,_,_,hc2⟩)
           ·exact .inr (.inr (.inr m6))
           ·exact .inr (.inr (.inr m7)))
          have hx5:QX a H5 ql x g':=by
           obtain ⟨k1,k2,k3,gs',k4,k5⟩:=hQ5
           refine ⟨sg,lv,gp,gs',k1,k2,k3,k4,paired_and k5 (fun b hb z=>?_),(ne_of_none hq2 m6).symm,(ne_of_none hq2 m7).symm⟩
           refine kg5 ql qs hq3 (ne_of_none hq2 m6) (ne_of_none hq2 m7) (fun gs2 h6 mm=>?_) gs' k4 (z▸hb)
           rw [g4] at h6
           injection h6 with h6
           injection h6 with h6
           rw [←refs_inj h6] at mm
           obtain ⟨i,hi⟩:=List.getElem?_of_mem mm
           obtain ⟨_,_,_,_,h7⟩:=paired_get2 g5 hi
           rw [hq2] at h7
           cases h7
          have k3:outI a c ch kn ql e m qs H Q E (.ok ([g'],z',u')):=k2
          walk_at "go"
          have fin:=ext_item (K:=K) k3 hc5 ?_ hq5 hD5 hb5 (.cons hx5 .nil) (fun g hg=>?_) ?_ (by simp;omega) nDl
          ·exact ⟨fin.1,.ref D,rfl,fin.2⟩
          ·rw [hk5]
           congr 2
           rw [List.map_append]
           show _=_++ [g'.sig]
           rw [sg']
           rfl
          ·rw [List.mem_singleton] at hg
           subst hg
           refine ⟨wf',?_⟩
           rw [sg']
           exact okl s (by simp)
          ·intro b o e n
           simp only [List.mem_cons,List.not_mem_nil,or_false,not_or] at n
           exact nkl b o (fr2 b o (fr1 b o e (by simp [n.1,n.2.1])) n.1) n.1
      ·have hn:¬nowC t r e=some Quire.LEFT:=fun z=>h ((chV_eq (n:=Quire.LEFT)).mpr z)
       have hbody:QM.bodyI l r n (rest t r e)= .ok (l.map fun s=>Quire.regular s n,r,rest t r e):=by
        cases hm:nowC t r e with
        |none=>
         rw [rest_none he hm]
         match l with
         | []=>rfl
         | [_]=>rfl
         |_::_::_=>rfl
        |some y=>
         rw [rest_now hm]
         have ny:¬y=Quire.LEFT:=fun z=>hn (by rw [hm,z])
         match l with
         | []=>exact if_neg ny
         | [_]=>exact if_neg ny
         |_::_::_=>exact if_neg ny
       rw [hbody] at k
       have k3:outI a c ch kn ql e m qs H Q E (if joinsB m l n=true then .error p else .ok (l.map fun s=>Quire.regular s n,r,rest t r e)):=by
        rw [joinI_eq] at k
        exact k
       clear k
       have done:∀H5,Same H3 H5->joinsB m l n=false->tyV K "list" (.ref ql) H5/\rExtend (.ref ql) [.ref D] H5 (fun _ H'=>Q .non H'):=fun H5 s5 hf=>by
        rw [hf,if_neg Bool.false_ne_true] at k3
        refine ext_item k3 ⟨d2,s5 _ _ hc3⟩ ?_ (s5 _ _ hq3) (s5 _ _ hys) (hb3.same s5) (bx.same s5) mreg (fr3.trans (FrL.of_same s5)) (by omega) nDl
        rw [s5 _ _ hk3,List.map_append,sigm]
       refine R.tand ?_
       refine ⟨_,rfl,R.truL (SqL.of hq3) ?_⟩
       rcases nil_or_snoc m with rfl|⟨m',g,rfl⟩
       ·obtain rfl:qs= []:=List.length_eq_zero_iff.mp (by rw [qsl];rfl)
        show tNext _ _ _
        have fin:=done H3 (Same.refl _) (by cases l<;>rfl)
        walk_at "go"
        exact ⟨fin.1,.ref D,rfl,fin.2⟩
       ·obtain ⟨qs',q',rfl,_,hg3⟩:=paired_split hb3
        obtain ⟨s,l',rfl⟩:∃s l',l=s::l':=by
         cases l with
         |nil=>exact absurd rfl lne
         |cons s l'=>exact ⟨s,l',rfl⟩
        obtain ⟨x,xs',rfl⟩:∃x xs',xs=x::xs':=by
         cases xs with
         |nil=>cases xl
         |cons x xs'=>exact ⟨x,xs',rfl⟩
        have hx3:QX a H3 ql x (Quire.regular s n):=by
         cases hx with
         |cons hx _=>exact hx.qx hq2
        have eI:(!((qs'++ [q']).map V.ref).isEmpty)=true:=by simp
        rw [eI]
        refine iteT ?_
        walk_at "go"
        refine R.ixl (SqL.of hq3) (by rw [List.map_append];exact atI_last _ _) ?_
        walk_at "go"
        refine R.ixl (SqL.of hys) (atI_nat (j:=0) rfl) ?_
        walk_at "go"
        have gok:=mok g (by simp)
        refine ⟨q',x,g,Quire.regular s n,rfl,hg3.is,hx3.is,gok.1,QM.wf_regular hz,(QM.ok_times gok.2).1,fun H5 s5=>R.truB ?_⟩
        have ej:joinsB (m'++ [g]) (s::l') n=Quire.follows g (Quire.regular s n):=by
         unfold joinsB
         rw [List.getLast?_concat]
        refine R.bbif (fun h6=>?_) (fun h6=>?_)<;>walk_at "go"
        ·rw [ej,h6,if_pos rfl] at k3
         exact ⟨_,rfl,fun dx2 hd=>k3 _ _ upd_same⟩
        ·have fin:=done H5 s5 (by rw [ej];exact h6)
         exact ⟨fin.1,.ref D,rfl,fin.2⟩
end
structure MkOk (m:List Gath):Prop where
 kok:QM.KOk (m.map Gath.sig)
 mok:MOk m
theorem item_kok {m ad:List Gath} {p q:Nat} {t u:List Nat} (hk:QM.KOk (m.map Gath.sig)) (h:Quire.itemAt m p t= .ok (ad,q,u)):QM.KOk ((m++ad).map Gath.sig):=by
 have ml:m.length<=48:=by have:=hk.len;rw [List.length_map] at this;exact this
 rw [QM.item_eq ml] at h
 cases hs:QM.sigsAt (m.map Gath.sig) p t with
 |error e=>rw [hs] at h;cases h
 |ok y=>
  obtain ⟨l,q1,u1⟩:=y
  rw [hs] at h
  dsimp only at h
  cases hn:Quire.number Quire.raisedDigit q1 u1 with
  |error e=>rw [hn] at h;cases h
  |ok y=>
   obtain ⟨n,r,v⟩:=y
   rw [hn] at h
   dsimp only at h
   cases hz:Quire.sizeOk n with
   |false=>rw [hz] at h;cases h
   |true=>
    rw [hz,if_neg (by simp),QM.tailI_eq] at h
    have hl:ad.map Gath.sig=l:=by
     have key:∀{ad':List Gath} {r':Nat} {v':List Nat},QM.bodyI l r n v= .ok (ad',r',v')->ad'.map Gath.sig=l:=by
      intro ad' r' v' e
      have gen:∀c w,(if c=Quire.LEFT then .error r else .ok (l.map fun x=>Quire.regular x n,r,c::w):Quire.Rd Quire.Make)= .ok (ad',r',v')->ad'.map Gath.sig=l:=fun c w e=>by
       split at e
       ·cases e
       ·injection e with e;injection e with e _;rw [←e,List.map_map];exact List.map_id l
      cases v with
      |nil=>
       have e2:(.ok (l.map fun x=>Quire.regular x n,r,[]):Quire.Rd Quire.Make)= .ok (ad',r',v'):=by
        rw [←e]
        cases l with
        |nil=>rfl
        |cons s l=>cases l<;>rfl
       injection e2 with e2;injection e2 with e2 _;rw [←e2,List.map_map];exact List.map_id l
      |cons c w=>
       cases l with
       |nil=>exact gen c w e
       |cons s l=>
        cases l with
        |cons x l=>exact gen c w e
        |nil=>
         unfold QM.bodyI at e
         dsimp only at e
         split at e
         ·cases hn:Quire.notesAt (w.length+1) (Quire.regular s n) 0 (r+1) w with
          |error e'=>rw [hn] at e;cases e
          |ok y=>
           obtain ⟨g,y,z⟩:=y
           rw [hn] at e
           dsimp only at e
           split at e
           ·cases e
           ·injection e with e
            injection e with e _
            rw [←e]
            show [g.sig]= [s]
            rw [(QM.notes_wf (QM.wf_regular hz) hn).2.1]
            rfl
         ·injection e with e
          injection e with e _
          rw [←e]
          rfl
     cases hb:QM.bodyI l r n v with
     |error e=>rw [hb] at h;cases h
     |ok y=>
      obtain ⟨ad',r',v'⟩:=y
      rw [hb] at h
      unfold QM.joinI at h
      dsimp only at h
      have e3:ad'=ad:=by
       split at h
       ·split at h
        ·cases h
        ·injection h with h;injection h with h _
       ·injection h with h;injection h with h _
      rw [←e3]
      exact key hb
    rw [List.map_append,hl]
    exact (QM.sigs_kok hk hs).1
section
variable {P:Program} {w:World} {K:W.Frag} {mg:Str->Option Value} {base:Heap} {a:Adr}
def outF (a:Adr) (H:Hp) (Q:VK) (E:XK) (r:Except Nat Quire.Make):Prop:=match r with
 | .error x=>Rz a E x
 | .ok m=>∀H' ql qs,Same H H'->H' ql=some (.lst (qs.map V.ref))->Book a H' ql m qs->MkOk m->Q (.ref ql) H'
def tailF (f:Nat) (m:List Gath) (q:Nat):List Nat->Except Nat Quire.Make
 | []=> .ok m
 |c::v=>if c=Quire.BLANK then Quire.itemsAt f m (q+1) v else .error q
theorem items_eq (f:Nat) (m:List Gath) (p:Nat) (t:List Nat):Quire.itemsAt (f+1) m p t=match Quire.itemAt m p t with
  | .error e=> .error e
  | .ok (a,q,u)=>tailF f (m++a) q u:=by
 unfold Quire.itemsAt tailF
 cases Quire.itemAt m p t with
 |error e=>rfl
 |ok y=>
  obtain ⟨a,q,u⟩:=y
  cases u<;>rfl
def spRF (a:Adr) (K:W.Frag):Sp:=fun vs H Q E=>∃ch,∃p e:Nat,∃t,vs= [.ref ch,.int (p:Int),.int (e:Int)]/\SqL K H ch (txV t)/\e<=t.length/\p<=e/\t.length<=30000/\
 outF a H Q E (Quire.itemsAt ((rest t p e).length+1) [] p (rest t p e))
theorem ok_39 (T:Txt K mg a):FnOk P w K mg base (CXd P w) 10 a.f_39 a.d_39 ["chars","place","end"] (spRF a K):=by
 refine okX T.u_39 sc_39 (fun vs H Q E h=>?_) (fun cdv A outer s H vs Q E hr h=>?_)
 ·obtain ⟨_,_,_,_,rfl,_⟩:=h;rfl
 ·obtain ⟨ch,p,e,t,rfl,hs,he,hpe,htl,k⟩:=h
  refine ⟨_,(pss_cons (ps_set (i:=3) sc_39.nd rfl (Or.inl rfl) (pe_make T.mk_150 (ok_41 T) (rm hr) rfl T.m_150 (b_41 T) .nil passN (pa_cons (pv 0) (pa_cons (pv 1) (pa_cons (pv 2) pa_nil))))) (pss_cons (ps_set (i:=4) sc_39.nd rfl (Or.inl rfl) (pe_lst pa_nil)) (pss_cons (ps_set (i:=5) sc_39.nd rfl (Or.inl rfl) pe_dnewT) (pss_cons (ps_expr (pe_call (ok_80 T) (rm hr) rfl T.m_80 T.u_80.kp (b_80 T) .nil passD (pa_cons (pv 3) (pa_cons (pv 4) (pa_cons (pv 5) pa_nil))))) (pss_cons (ps_while passOwnD (pt_cmpR op_notN (pe_meth0 (pv 3) T.cl_150 T.me_42 (ok_42 T) (rm hr) (b_42 T) .nil passN) pe_non (nomark _)) (pss_cons (ps_expr (pe_meth (pv 3) T.cl_150 T.me_44 (ok_44 T) (rm hr) (b_44 T) .nil passD (pa_cons (g_154 T) pa_nil))) (pss_one (ps_expr (pe_call (ok_80 T) (rm hr) rfl T.m_80 T.u_80.kp (b_80 T) .nil passD (pa_cons (pv 3) (pa_cons (pv 4) (pa_cons (pv 5) pa_nil)))))))) (pss_one (ps_ret (pv 4)))))))),?_⟩
  walk_at "go0"
  refine ⟨_,rfl,_,rfl,_,rfl,fun c dx hc hdx nd=>?_⟩
  have old:∀b o,H b=some o->(upd (upd H dx (.own c)) c (.ins a.c_150 dx [])) b=some o:=fun b o e=>by rw [upd_ne (ne_of_none e hc),upd_ne (ne_of_none e hdx)];exact e
  refine ⟨c,dx,ch,p,e,rfl,upd_same,?_⟩
  refine ⟨rfl,?_⟩
  have hc1:(upd (upd (upd H dx (HO.own c)) c (HO.ins a.c_150 dx [])) c (HO.ins a.c_150 dx (curF ch p e))) c=some (HO.ins a.c_150 dx (curF ch p e)):=upd_same
  have s1:Same H (upd (upd (upd H dx (HO.own c)) c (HO.ins a.c_150 dx [])) c (HO.ins a.c_150 dx (curF ch p e))):=fun b o e=>by rw [upd_ne (ne_of_none e hc)];exact old b o e
  generalize upd (upd (upd H dx (HO.own c)) c (HO.ins a.c_150 dx [])) c (HO.ins a.c_150 dx (curF ch p e))=H1 at hc1 s1⊢
  clear old
  walk_at "go"
  refine ⟨Nat.zero_le _,fun ql hql=>?_⟩
  have nw:=R.new_of (o:= .lst []) hql
  generalize upd H1 ql (.lst [])=H2 at nw⊢
  obtain ⟨_,h2,s2⟩:=nw
  walk_at "go"
  refine fun kn hkn=>?_
  have nw:=R.new_of (o:= .dT []) hkn
  generalize upd H2 kn (.dT [])=H3 at nw⊢
  obtain ⟨_,hk3,s3⟩:=nw
  have hq3:H3 ql=some (.lst (([]:List Addr).map V.ref)):=s3 _ _ h2
  have hc3:=s3 _ _ (s2 _ _ hc1)
  have hs1:=s1.seq hs
  have hs3:=s3.seq (s2.seq hs1)
  have sep:Sep K ch [ql] t:=Sep.of hs1 (fun b m=> .inl (by rw [List.mem_singleton.mp m];exact hql))
  have fresh:∀H',FrL [c,kn,ql] H3 H'->Same H H':=fun H' f b o e=>f b o (s3 _ _ (s2 _ _ (s1 _ _ e))) (by
   simp only [List.mem_cons,List.not_mem_nil,or_false,not_or]
   exact ⟨ne_of_none e hc,ne_of_none (s2 _ _ (s1 _ _ e)) hkn,ne_of_none (s1 _ _ e) hql⟩)
  walk_at "go"
  refine ⟨c,ch,kn,ql,p,e,t,[],[],rfl,⟨dx,hc3⟩,hs3,sep,he,htl,hk3,⟨by simp,by simp,by simp⟩,hq3,.nil,(fun _ h=>nomatch h),?_⟩
  rw [items_eq] at k
  have eat:=QM.eats_item (m:= []) (p:=p) (t:=rest t p e) (by simp)
  have kk0:QM.KOk (([]:List Gath).map Gath.sig):=⟨by simp,by simp,by simp⟩
  cases hr1:Quire.itemAt [] p (rest t p e) with
  |error x=>rw [hr1] at k;exact k
  |ok y=>
   obtain ⟨ad,z,u⟩:=y
   obtain ⟨rfl,pz,ez⟩:=eats_rest he eat hr1
   rw [hr1] at k
   dsimp only at k
   intro H4 qs4 hc4 hk4 hq4 hb4 mo4 (fr4:FrL [c,kn,ql] H3 H4)
   walk_at "go"
   refine ⟨fun mm σ' H'=>∃(m:List Gath) (qs:List Addr) (z f:Nat),mm=e - z/\σ'= [some (.ref ch),some (.int (p:Int)),some (.int (e:Int)),some (.ref c),some (.ref ql),some (.ref kn)]/\CurAt a H' c ch z e/\H' kn=some (knD (m.map Gath.sig))/\H' ql=some (.lst (qs.map V.ref))/\Book a H' ql m qs/\MkOk m/\FrL [c,kn,ql] H3 H'/\z<=e/\e - z<=f/\outF a H Q E (tailF f m z (rest t z e)),
    ⟨_,[]++ad,[]++qs4,z,(rest t p e).length,rfl,rfl,hc4,hk4,hq4,hb4,⟨item_kok kk0 hr1,mo4⟩,fr4,ez hpe,by rw [rest_len he];omega,k⟩,?_⟩
   clear k hr1 eat hk4 hq4 hb4 mo4 fr4 hc4
   rintro mm σ' H' ⟨m,qs,z,f,rfl,rfl,⟨dx',hc'⟩,hk',hq',hb',mk',fr',hze,hf,k⟩
   have hs':SqL K H' ch (txV t):=(fresh H' fr').seq hs
   walk_at "go"
   refine ⟨rfl,R.bl (R.nif (fun h=>?_) (fun h=>?_))⟩
   ·obtain ⟨x,hn⟩:∃x,nowC t z e=some x:=by
     cases hn:nowC t z e with
     |none=>rw [hn] at h;exact absurd rfl h
     |some x=>exact ⟨x,rfl⟩
    have lt:=now_lt hn
    refine ⟨_,fun _ _ h=>h,?_⟩
    walk_at "go"
    refine ⟨c,ch,z,e,t,Quire.BLANK,rfl,⟨dx',hc'⟩,hs',he,?_⟩
    rw [rest_now hn] at k
    unfold tailF at k
    dsimp only at k
    by_cases hx:x=Quire.BLANK
    ·subst hx
     rw [if_pos rfl] at k
     rw [charAt_now hn]
     intro H5 hc5 (fr5:Fr c H' H5)
     have hs5:=fr5.seqC ⟨dx',hc'⟩ hs'
     have nkc:kn≠c:=fun z=>by rw [z,hc'] at hk';cases hk'
     have nlc:ql≠c:=fun z=>by rw [z,hc'] at hq';cases hq'
     have hk5:=fr5 _ _ hk' nkc
     have hq5:=fr5 _ _ hq' nlc
     have hb5:Book a H5 ql m qs:=hb'.frame (S:= [c]) (FrL.of_fr fr5 (by simp)) (by
      intro b hb
      rw [List.mem_singleton] at hb
      subst hb
      exact .inr (.inl ⟨_,_,_,_,hc'⟩))
     walk_at "go"
     refine ⟨c,ch,kn,ql,z+1,e,t,m,qs,rfl,hc5,hs5,sep,he,htl,hk5,mk'.kok,hq5,hb5,mk'.mok,?_⟩
     obtain ⟨f,rfl⟩:∃f',f=f'+1:=⟨f - 1,by omega⟩
     rw [items_eq] at k
     have ml:m.length<=48:=by have:=mk'.kok.len;rw [List.length_map] at this;exact this
     have eat:=QM.eats_item (m:=m) (p:=z+1) (t:=rest t (z+1) e) ml
     cases hr6:Quire.itemAt m (z+1) (rest t (z+1) e) with
     |error x=>rw [hr6] at k;exact k
     |ok y=>
      obtain ⟨ad,z6,u⟩:=y
      obtain ⟨rfl,pz6,ez6⟩:=eats_rest he eat hr6
      rw [hr6] at k
      dsimp only at k
      intro H6 qs6 hc6 hk6 hq6 hb6 mo6 (fr6:FrL [c,kn,ql] H5 H6)
      refine ⟨e - z6,by omega,m++ad,qs++qs6,z6,f,rfl,rfl,hc6,hk6,hq6,hb6,⟨item_kok mk'.kok hr6,fun g hg=>(List.mem_append.mp hg).elim (mk'.mok g) (mo6 g)⟩,(fr'.trans (FrL.of_fr fr5 (by simp))).trans fr6,ez6 lt,by omega,k⟩
    ·rw [if_neg hx] at k
     rw [charAt_not he (fun y=>hx (by rw [hn] at y;injection y))]
     exact k
   ·have hn:nowC t z e=none:=by
     cases hn:nowC t z e with
     |none=>rfl
     |some x=>rw [hn] at h;cases h
    rw [rest_none he hn] at k
    walk_at "go"
    exact k H' ql qs (fresh H' fr') hq' hb' mk'
end
end Q
namespace R
open PySem PySem.Spec PyProof.Rows L2 XL
section
variable {σ:L2.St} {H:Hp} {K:W.Frag}
def Tx (t:TE) (σ:L2.St) (H:Hp) (xs:List V):Prop:=∀Q:VK,(∀H' p,Same H H'->H p=none->H' p=some (.lst xs)->Q (.ref p) H')->t σ H Q
def Tl (t:TE) (σ:L2.St) (H:Hp) (xs:List V):Prop:=∀Q:VK,(∀H' p,Same H H'->H' p=some (.lst xs)->Q (.ref p) H')->t σ H Q
theorem Tx.tl {t:TE} {xs:List V} (h:Tx t σ H xs):Tl t σ H xs:=fun Q q=>h Q fun H' p s _ e=>q H' p s e
theorem Tl.var {i:Nat} {p:Addr} {xs:List V} (h:σ[i]? =some (some (.ref p))) (e:H p=some (.lst xs)):Tl (tVar i) σ H xs:=fun Q q=>⟨_,h,q H p (Same.refl H) e⟩
theorem Tcat {ta tb:TE} {xs ys:List V} (h1:Tl ta σ H xs) (h2:∀H',Same H H'->Tl tb σ H' ys) (le:xs.length+ys.length<=sizeLine):Tx (tOp rCat ta tb) σ H (xs++ys):=fun Q q=>
 h1 _ fun H1 p s1 e1=>h2 H1 s1 _ fun H2 p2 s2 e2=>⟨p,p2,xs,ys,rfl,rfl,s2 _ _ e1,e2,le,fun r hr=>q _ r ((s1.trans s2).trans (new_of hr).2.2) ((s1.trans s2).free hr) upd_same⟩
theorem Tone {te:TE} {v:V} (h:EsE te σ H v):Tx (tLst (tCons te tNil)) σ H [v]:=fun Q q=>
 h _ fun H1 s1=>⟨by rw [List.length_singleton,sizeLine_eq];omega,fun p hp=>q _ p (s1.trans (new_of hp).2.2) (s1.free hp) upd_same⟩
theorem Tnil:Tx (tLst tNil) σ H []:=fun Q q=>⟨Nat.zero_le _,fun p hp=>q _ p (new_of hp).2.2 hp upd_same⟩
theorem Tl.same {t:TE} {xs:List V} {Q:VK} (h:Tl t σ H xs) (q:∀H' p,Same H H'->H' p=some (.lst xs)->Q (.ref p) H'):t σ H Q:=h Q q
theorem tx {t:TE} {xs:List V} {Q:VK} (h:Tx t σ H xs) (q:∀H' p,Same H H'->H p=none->H' p=some (.lst xs)->Q (.ref p) H'):t σ H Q:=h Q q
theorem Tbox {te:TE} {xs:List V} {Q:VK} (h:Tx te σ H xs) (q:∀H' D p,Same H H'->H D=none->H' D=some (.lst [.ref p])->H' p=some (.lst xs)->Q (.ref D) H'):tLst (tCons te tNil) σ H Q:=
 h _ fun H1 p s1 _ e1=>⟨by rw [List.length_singleton,sizeLine_eq];omega,fun D hD=>q _ D p (s1.trans (new_of hD).2.2) (s1.free hD) upd_same ((new_of hD).2.2 _ _ e1)⟩
theorem Econ {v:V}:EsE (tC v) σ H v:=fun Q q=>q H (Same.refl H)
end
end R
namespace Q
open PySem PySem.Spec PyProof.Rows L2 XL
open Quire (Sign Word Sig Gath Fate)
open QuireCopies (Line)
section
variable {P:Program} {w:World} {K:W.Frag} {mg:Str->Option Value} {base:Heap} {a:Adr}
theorem text_len {s:Sig} (h:s.ok=true):s.text.length<=30:=by
 obtain ⟨h1,h2,h3⟩:=sig_ok h
 unfold Quire.Sig.text
 rw [List.length_append]
 have:(if s.times=1 then ([]:List Nat) else Quire.decimal s.times).length<=20:=by
  split
  ·exact Nat.zero_le _
  ·unfold Quire.decimal
   rw [List.length_map]
   exact digits_len 19 s.times (by omega)
 simp only [List.length_singleton]
 omega
theorem dec_len {n:Nat} (h:n < 100000000):(Quire.decimal n).length<=20:=by
 unfold Quire.decimal
 rw [List.length_map]
 exact digits_len 19 n (by omega)
theorem small {n:Nat} (h:n<=1000000):n<=sizeLine:=by rw [sizeLine_eq];omega
def spTA:Sp:=fun vs H Q _=>∃p xs,vs= [.ref p]/\H p=some (.lst xs)/\xs.length<=1000000/\∀r H',H' r=some (.lst (.int (xs.length:Int)::xs))->Q (.ref r) H'
theorem ok_56 (T : Txt K mg a) : FnOk P w K mg base (CXd P w) 1 a.f_56 a.d_56 ["text"] spTA := by
 refine okN T.u_56 sc_56 (fun vs H Q E h => ?_) (fun cdv A outer s H vs Q E hr h => ?_)
 ·obtain ⟨_, _, rfl, _⟩ := h; rfl
 ·obtain ⟨p, xs, rfl, hp, hl, k⟩ := h
  refine ⟨_, (pss_one (ps_ret (pe_op op_cat (pe_lst (pa_cons (pe_callB call_len_seq (by rfl) T.b_len PySem.boot_len (pa_cons (pv 0) pa_nil)) pa_nil)) (pv 0)))), ?_⟩
  (try dsimp only [L2.cxOf, L2.Cx.nox, L2.Cx.wish, L2.Cx.blk])
  refine R.ret ?_
  refine R.tx (R.Tcat (xs := [V.int (xs.length : Int)]) (R.Tx.tl (R.Tone ?_)) (fun H' s1 => R.Tl.var rfl (s1 _ _ hp)) ?_) (fun H' r s1 _ e => k r H' e)
  ·intro Qv q
   walk_at "go"
   exact ⟨p, xs, rfl, .inl (SqL.of hp), q H (Same.refl H)⟩
  ·rw [List.length_singleton, sizeLine_eq]
   omega
theorem wdV_text (w:Word):wdV w=txV (Quire.wordText w):=by
 unfold wdV txV Quire.wordText Quire.text
 rw [List.map_map,List.map_map]
 refine List.map_congr_left fun s _=>?_
 cases s<;>rfl
def putT (w:Word):List Nat:=if Quire.counted w=true then Quire.decimal w.length else Quire.LANGLE::(Quire.wordText w++ [Quire.RANGLE])
def prePut (w:Word) (vs:List V) (H:Hp):Prop:=∃p,vs= [.ref p]/\H p=some (.lst (wdV w))/\w.length<=21
theorem ok_52 (T:Txt K mg a):FnOk P w K mg base (CXd P w) 2 a.f_52 a.d_52 ["signs"] (spTx K prePut putT):=by
 refine okN T.u_52 sc_52 (fun vs H Q E h=>?_) (fun cdv A outer s H vs Q E hr h=>?_)
 ·obtain ⟨_,⟨_,rfl,_⟩,_⟩:=h;rfl
 ·obtain ⟨wd,⟨p,rfl,hp,hl⟩,k⟩:=h
  refine ⟨_,(pss_cons (ps_if (pt_truth (pe_call (ok_62 T) (rm hr) rfl T.m_62 T.u_62.kp (b_62 T) .nil passN (pa_cons (pv 0) pa_nil)) (fun _=>rfl)) (pss_one (ps_ret (pe_call (ok_51 T) (rm hr) rfl T.m_51 T.u_51.kp (b_51 T) .nil passN (pa_cons (pe_callB call_len_seq (by rfl) T.b_len PySem.boot_len (pa_cons (pv 0) pa_nil)) (pa_cons (g_151 T) pa_nil))))) pss_nil) (pss_one (ps_ret (pe_op op_cat (pe_op op_cat (pe_lst (pa_cons (g_57 T) pa_nil)) (pv 0)) (pe_lst (pa_cons (g_40 T) pa_nil)))))),?_⟩
  walk_at "go0"
  refine ⟨p,wd,rfl,SqL.of hp,by omega,fun H1 s1=>R.truB ?_⟩
  unfold putT at k
  have hp1:=s1 _ _ hp
  refine R.bbif (fun h=>?_) (fun h=>?_)<;>walk_at "go"
  ·rw [if_pos h,dec_num] at k
   refine ⟨p,_,rfl,.inl (SqL.of hp1),?_⟩
   walk_at "go"
   refine ⟨_,_,wd.length,by rw [wdV_len];rfl,.dig,by decide,by omega,fun r H' n e s=>k r H' (s1.free n) e (s1.trans s)⟩
  ·rw [if_neg (by rw [h];exact Bool.false_ne_true)] at k
   have e1:txV (Quire.LANGLE::(Quire.wordText wd++ [Quire.RANGLE]))=([V.int 10216]++wdV wd)++ [V.int 10217]:=by
    rw [wdV_text]
    show V.int _::txV (_++_)=_
    rw [txV_app]
    rfl
   have l1:=wdV_len wd
   refine R.tx (R.Tcat (xs:= [V.int 10216]++wdV wd) (ys:= [V.int 10217]) (R.Tx.tl (R.Tcat (xs:= [V.int 10216]) (R.Tx.tl (R.Tone R.Econ)) (fun H2 s2=>R.Tl.var rfl (s2 _ _ hp1)) ?_)) (fun H2 s2=>R.Tx.tl (R.Tone R.Econ)) ?_) (fun H' r s2 n e=>k r H' (s1.free n) (by rw [e1];exact e) (s1.trans s2))
   ·rw [l1];exact small (by simp;omega)
   ·rw [List.length_append,l1];exact small (by simp;omega)
theorem ftV_inj {x y:Fate} (h:ftV x=ftV y):x=y:=by cases x<;>cases y<;>first|rfl|(cases h)
theorem putq_at {H:Hp} {g:Gath} {gs:List Addr} {k:Nat} (wf:WF g) (h:Paired (fun w b=>H b=some (.lst (wdV w))) g.puts gs) (hk:k<=g.size):∃b,(gs.map V.ref)[k]? =some (.ref b)/\H b=some (.lst (wdV (g.put k)))/\(g.put k).length<=21:=by
 have hl:k < g.puts.length:=by rw [wf.pl];omega
 have e:g.puts[k]? =some (g.put k):=by
  unfold Quire.Gath.put
  rw [List.getD_eq_getElem?_getD,List.getElem?_eq_getElem hl]
  rfl
 obtain ⟨b,h1,h2⟩:=paired_get h e
 exact ⟨b,by rw [List.getElem?_map,h1];rfl,h2,wf.wl _ (List.mem_of_getElem? e)⟩
theorem code_inj {x y:Sign} (h:code x=code y):x=y:=by cases x<;>cases y<;>first|rfl|(revert h;decide)
theorem codes_eq:∀{v w:Word},v.map code=w.map code->v=w
 | [],[],_=>rfl
 | [],_::_,h=>by cases h
 |_::_,[],h=>by cases h
 |x::v,y::w,h=>by
  injection h with h1 h2
  rw [code_inj h1,codes_eq h2]
end
section
variable {P:Program} {w:World} {K:W.Frag} {mg:Str->Option Value} {base:Heap} {a:Adr}
def preNum (K:W.Frag) (x:Sig×Nat) (vs:List V) (H:Hp):Prop:=∃p,vs= [.ref p,.int (x.2:Int)]/\SqT K H p (sgV x.1)/\x.1.ok=true/\x.2 < 100000000
theorem ok_32 (T : Txt K mg a) : FnOk P w K mg base (CXd P w) 3 a.f_32 a.d_32 ["signature", "number"] (spTx K (preNum K) fun x => x.1.text ++ (QuireCopies.DOT :: Quire.decimal x.2)) := by
 refine okN T.u_32 sc_32 (fun vs H Q E h => ?_) (fun cdv A outer s H vs Q E hr h => ?_)
 ·obtain ⟨_, ⟨_, rfl, _⟩, _⟩ := h; rfl
 ·obtain ⟨⟨s, n⟩, ⟨p, rfl, hp, ok, hn⟩, k⟩ := h
  have ok : s.ok = true := ok
  have hn : n < 100000000 := hn
  have l1 := text_len ok
  have l2 := dec_len hn
  refine ⟨_, (pss_one (ps_ret (pe_op op_cat (pe_op op_cat (pe_call (ok_21 T) (rm hr) rfl T.m_21 T.u_21.kp (b_21 T) .nil passN (pa_cons (pv 0) pa_nil)) (pe_lst (pa_cons (g_171 T) pa_nil))) (pe_call (ok_51 T) (rm hr) rfl T.m_51 T.u_51.kp (b_51 T) .nil passN (pa_cons (pv 1) (pa_cons (g_151 T) pa_nil)))))), ?_⟩
  (try dsimp only [L2.cxOf, L2.Cx.nox, L2.Cx.wish, L2.Cx.blk])
  refine R.ret ?_
  have e1 : txV (s.text ++ (QuireCopies.DOT :: Quire.decimal n)) = (txV s.text ++ [V.int 46]) ++ txV (numT QM.DIG n) := by
   rw [← dec_num, txV_app, List.append_assoc]
   rfl
  refine R.tx (R.Tcat (xs := txV s.text ++ [V.int 46]) (ys := txV (numT QM.DIG n)) (R.Tx.tl (R.Tcat (xs := txV s.text) (ys := [V.int 46]) (R.Tx.tl ?_) (fun H1 s1 => R.Tx.tl (R.Tone R.Econ)) ?_)) (fun H1 s1 => R.Tx.tl ?_) ?_) (fun H' r s1 n1 e => k r H' n1 (by rw [e1]; exact e) s1)
  ·intro Qv q
   walk_at "go"
   exact ⟨s, ⟨p, rfl, hp, ok⟩, fun r H' n e s => q H' r s n e⟩
  ·rw [txV_len]; exact small (by simp; omega)
  ·intro Qv q
   walk_at "go"
   exact ⟨_, _, n, rfl, .dig, by decide, hn, fun r H' n e s => q H' r s n e⟩
  ·rw [← dec_num, List.length_append, txV_len, txV_len]; exact small (by simp; omega)
end
def LinesAt (H:Hp) (ls:List Line) (ps:List Addr):Prop:=Paired (fun x p=>H p=some (.lst (txV x.text))) ls ps
theorem line_ne (x:Line):x.text≠ []:=by
 cases x with
 |gone s=>exact List.cons_ne_nil _ _
 |fate f s k=>exact List.cons_ne_nil _ _
 |gap s k w=>exact List.cons_ne_nil _ _
 |move s t=>cases t<;>exact List.cons_ne_nil _ _
theorem LinesAt.same {H H':Hp} {ls:List Line} {ps:List Addr} (h:LinesAt H ls ps) (s:Same H H'):LinesAt H' ls ps:=R.paired_imp (fun _ _ e=>s _ _ e) h
theorem LinesAt.upd {H:Hp} {ls:List Line} {ps rs:List Addr} {D:Addr} {o:HO} (h:LinesAt H ls ps) (hD:H D=some (.lst (rs.map V.ref))):LinesAt (upd H D o) ls ps:=R.paired_imp (fun x p e=>by
 rw [upd_ne]
 ·exact e
 ·intro z
  rw [z,hD] at e
  injection e with e
  injection e with e
  have:=line_ne x
  cases ht:x.text with
  |nil=>exact this ht
  |cons y r=>rw [ht] at e;cases rs<;>cases e) h
def outL (H:Hp) (Q:VK) (ls:List Line):Prop:=∀H' D ps,Same H H'->H D=none->H' D=some (.lst (ps.map V.ref))->LinesAt H' ls ps->Q (.ref D) H'
structure Twins (g h:Gath):Prop where
 wg:WF g
 wh:WF h
 sz:g.size=h.size
 sg:g.sig=h.sig
 ok:h.sig.ok=true
section
variable {P:Program} {w:World} {K:W.Frag} {mg:Str->Option Value} {base:Heap} {a:Adr}
def spLL (a:Adr):Sp:=fun vs H Q _=>∃q1 q2 g h,∃k:Nat,vs= [.ref q1,.ref q2,.int ((k+1:Nat):Int)]/\QIs a H q1 g/\QIs a H q2 h/\Twins g h/\k < h.size/\outL H Q (QuireCopies.lineLeaf g h k)
theorem ok_64 (T:Txt K mg a):FnOk P w K mg base (CXd P w) 4 a.f_64 a.d_64 ["was","now","leaf"] (spLL a):=by
 refine okN T.u_64 sc_64 (fun vs H Q E h=>?_) (fun cdv A outer s H vs Q E hr h=>?_)
 ·obtain ⟨_,_,_,_,_,rfl,_⟩:=h;rfl
 ·obtain ⟨q1,q2,g,h,n,rfl,⟨sg1,lv1,gp1,⟨dx1,a1⟩,a2,a3,gs1,a4,a5⟩,⟨sg2,lv2,gp2,⟨dx2,b1⟩,b2,b3,gs2,b4,b5⟩,tw,hn,k⟩:=h
  refine ⟨_,(pss_cons (ps_set (i:=3) sc_64.nd rfl (Or.inl rfl) (pe_ix ix_list (pe_fld (pv 1) rfl) (pe_op op_sub (pv 2) pe_int) (fun _ _=>rfl))) (pss_cons (ps_if (pt_cmpR op_eq (pe_ix ix_list (pe_fld (pv 0) rfl) (pe_op op_sub (pv 2) pe_int) (fun _ _=>rfl)) (pv 3) (nomark _)) (pss_one (ps_ret (pe_lst pa_nil))) pss_nil) (pss_one (ps_ret (pe_lst (pa_cons (pe_op op_cat (pe_op op_cat (pe_lst (pa_cons (pe_ix ix_tup (g_49 T) (pv 3) (fun _ _=>rfl)) pa_nil)) (pe_call (ok_32 T) (rm hr) rfl T.m_32 T.u_32.kp (b_32 T) .nil passN (pa_cons (pe_fld (pv 1) rfl) (pa_cons (pv 2) pa_nil)))) (pe_lst (pa_cons (g_72 T) pa_nil))) pa_nil)))))),?_⟩
  have e0:((n+1:Nat):Int) - 1=(n:Int):=by omega
  have n20:=(size_le tw.wh.sz).2
  walk_at "go0"
  rw [e0]
  refine R.ixl (SqL.of b3) (atI_nat (fate_at tw.wh hn)) ?_
  walk_at "go"
  rw [e0]
  refine R.ixl (SqL.of a3) (atI_nat (fate_at tw.wg (by rw [tw.sz];exact hn))) ?_
  walk_at "go"
  have sc:∀x y:Fate,scal (ftV x) (ftV y)=true:=fun x y=>by cases x<;>cases y<;>rfl
  unfold QuireCopies.lineLeaf at k
  refine R.eq_ (sc _ _) (R.bl (R.dif (fun h6=>?_) (fun h6=>?_)))
  ·rw [if_pos (ftV_inj h6)] at k
   refine R.ret ?_
   exact R.tx R.Tnil (fun H' D s1 n1 e=>k H' D [] s1 n1 e .nil)
  ·rw [if_neg (fun z=>h6 (by rw [z]))] at k
   have l1:=text_len tw.ok
   have l2:=dec_len (n:=n+1) (by omega)
   have hf:∃m:Nat,(QuireCopies.fateSign (h.fate n)=m)/\atI ([61,247,8722].map V.int) (match ftV (h.fate n) with| .int i=>i|_=>0)=some (.int (m:Int)):=by
    cases h.fate n
    ·exact ⟨61,rfl,rfl⟩
    ·exact ⟨8722,rfl,rfl⟩
    ·exact ⟨247,rfl,rfl⟩
   obtain ⟨m,hm1,hm2⟩:=hf
   have e1:txV (Line.text (.fate (h.fate n) g.sig (n+1)))=([V.int (m:Int)]++txV (g.sig.text++(QuireCopies.DOT::Quire.decimal (n+1))))++ [V.int 10]:=by
    show V.int _::txV (g.sig.text++(QuireCopies.DOT::(Quire.decimal (n+1)++ [QuireCopies.LF])))=_
    rw [hm1]
    rw [show g.sig.text++(QuireCopies.DOT::(Quire.decimal (n+1)++ [QuireCopies.LF]))=(g.sig.text++(QuireCopies.DOT::Quire.decimal (n+1)))++ [QuireCopies.LF] by simp,txV_app]
    rfl
   refine R.next ?_
   dsimp only
   refine R.ret ?_
   have hs2:H sg2=some (.tup (sgV g.sig)):=by rw [tw.sg];exact b2
   refine R.Tbox (R.Tcat (R.Tx.tl (R.Tcat (xs:= [V.int (m:Int)]) (ys:=txV (g.sig.text++(QuireCopies.DOT::Quire.decimal (n+1)))) (R.Tx.tl (R.Tone ?_)) (fun H1 s1=>R.Tx.tl ?_) ?_)) (fun H1 s1=>R.Tx.tl (R.Tone R.Econ)) ?_) (fun H' D p s1 n1 e e2=>k H' D [p] s1 n1 e (.cons (by rw [e1];exact e2) .nil))
   ·intro Qv q
    walk_at "go"
    revert hm2
    cases h.fate n<;>intro hm2<;>exact R.ixt (T.q_49 H) hm2 (q H (Same.refl H))
   ·intro Qv q
    have b1':=s1 _ _ b1
    walk_at "go"
    exact ⟨(g.sig,n+1),⟨sg2,rfl,R.sqT_of (s1 _ _ hs2),(by rw [tw.sg];exact tw.ok),(by show n+1 < _;omega)⟩,fun r H' n e s=>q H' r s n e⟩
   ·rw [txV_len,List.length_append,tw.sg]
    exact small (by simp;omega)
   ·rw [List.length_append,txV_len,List.length_append,tw.sg]
    exact small (by simp;omega)
def spGL (a:Adr):Sp:=fun vs H Q _=>∃q1 q2 g h,∃k:Nat,vs= [.ref q1,.ref q2,.int (k:Int)]/\QIs a H q1 g/\QIs a H q2 h/\Twins g h/\k<=h.size/\outL H Q (QuireCopies.lineGap g h k)
theorem ok_77 (T:Txt K mg a):FnOk P w K mg base (CXd P w) 4 a.f_77 a.d_77 ["was","now","gap"] (spGL a):=by
 refine okN T.u_77 sc_77 (fun vs H Q E h=>?_) (fun cdv A outer s H vs Q E hr h=>?_)
 ·obtain ⟨_,_,_,_,_,rfl,_⟩:=h;rfl
 ·obtain ⟨q1,q2,g,h,n,rfl,⟨sg1,lv1,gp1,⟨dx1,a1⟩,a2,a3,gs1,a4,a5⟩,⟨sg2,lv2,gp2,⟨dx2,b1⟩,b2,b3,gs2,b4,b5⟩,tw,hn,k⟩:=h
  refine ⟨_,(pss_cons (ps_set (i:=3) sc_77.nd rfl (Or.inl rfl) (pe_ix ix_list (pe_fld (pv 1) rfl) (pv 2) (fun _ _=>rfl))) (pss_cons (ps_if (pt_cmpR (op_eqD hr.units) (pe_ix ix_list (pe_fld (pv 0) rfl) (pv 2) (fun _ _=>rfl)) (pv 3) (nomark _)) (pss_one (ps_ret (pe_lst pa_nil))) pss_nil) (pss_cons (ps_set (i:=4) sc_77.nd rfl (Or.inl rfl) (pe_ifExp (pt_truth (pv 3) (fun _=>rfl)) (pe_call (ok_52 T) (rm hr) rfl T.m_52 T.u_52.kp (b_52 T) .nil passN (pa_cons (pv 3) pa_nil)) (pe_call (ok_51 T) (rm hr) rfl T.m_51 T.u_51.kp (b_51 T) .nil passN (pa_cons pe_int (pa_cons (g_151 T) pa_nil))))) (pss_one (ps_ret (pe_lst (pa_cons (pe_op op_cat (pe_op op_cat (pe_op op_cat (pe_op op_cat (pe_lst (pa_cons (g_167 T) pa_nil)) (pe_call (ok_32 T) (rm hr) rfl T.m_32 T.u_32.kp (b_32 T) .nil passN (pa_cons (pe_fld (pv 1) rfl) (pa_cons (pv 2) pa_nil)))) (pe_lst (pa_cons (g_154 T) pa_nil))) (pv 4)) (pe_lst (pa_cons (g_72 T) pa_nil))) pa_nil))))))),?_⟩
  have n20:=(size_le tw.wh.sz).2
  obtain ⟨p1,c1,c2,c3⟩:=putq_at tw.wg a5 (by rw [tw.sz];exact hn)
  obtain ⟨p2,d1,d2,d3⟩:=putq_at tw.wh b5 hn
  walk_at "go0"
  refine R.ixl (SqL.of b4) (atI_nat d1) ?_
  walk_at "go"
  refine R.ixl (SqL.of a4) (atI_nat c1) ?_
  walk_at "go"
  unfold QuireCopies.lineGap at k
  have wm:∀w:Word,wdV w=(w.map code).map V.int:=fun w=>by
   rw [List.map_map]
   rfl
  refine R.eqL ((g.put n).map code) ((h.put n).map code) (SqL.of c2) (SqL.of d2) (wm _) (wm _) (R.bl (R.dif (fun h6=>?_) (fun h6=>?_)))
  ·rw [if_pos (codes_eq h6)] at k
   refine R.ret ?_
   exact R.tx R.Tnil (fun H' D s1 n1 e=>k H' D [] s1 n1 e .nil)
  ·rw [if_neg (fun z=>h6 (by rw [z]))] at k
   have l1:=text_len tw.ok
   have l2:=dec_len (n:=n) (by omega)
   have hs2:H sg2=some (.tup (sgV g.sig)):=by rw [tw.sg];exact b2
   refine R.next ?_
   dsimp only
   have pl:(QuireCopies.putText (h.put n)).length<=50:=by
    unfold QuireCopies.putText
    split
    ·exact (by decide)
    ·split
     ·have:=dec_len (n:=(h.put n).length) (by omega)
      omega
     ·rw [List.length_cons,List.length_append]
      unfold Quire.wordText Quire.text
      rw [List.length_map,List.length_map]
      simp
      omega
   refine R.seq ?_
   refine R.asg ?_
   have step:∀(H1:Hp) (tp:Addr),Same H H1->H1 tp=some (.lst (txV (QuireCopies.putText (h.put n))))->tRet (tLst (tCons (tOp rCat (tOp rCat (tOp rCat (tOp rCat (tLst (tCons (tC (V.int 43)) tNil)) (tCall (spTx K (preNum K) fun x=>x.1.text++(QuireCopies.DOT::Quire.decimal x.2)) [] E0 (tCons (tFld K (tVar 1) "signature") (tCons (tVar 2) tNil)))) (tLst (tCons (tC (V.int 32)) tNil))) (tVar 4)) (tLst (tCons (tC (V.int 10)) tNil))) tNil)) {nx:=fun _ H'=>Q .non H',rt:=Q} [some (.ref q1),some (.ref q2),some (.int (n:Int)),some (.ref p2),some (.ref tp)] H1:=by
    intro H1 tp s1 htp
    have e1:txV (Line.text (.gap g.sig n (h.put n)))=((([V.int 43]++txV (g.sig.text++(QuireCopies.DOT::Quire.decimal n)))++ [V.int 32])++txV (QuireCopies.putText (h.put n)))++ [V.int 10]:=by
     show V.int _::txV (g.sig.text++(QuireCopies.DOT::(Quire.decimal n++(Quire.BLANK::(QuireCopies.putText (h.put n)++ [QuireCopies.LF])))))=_
     rw [show g.sig.text++(QuireCopies.DOT::(Quire.decimal n++(Quire.BLANK::(QuireCopies.putText (h.put n)++ [QuireCopies.LF]))))=(g.sig.text++(QuireCopies.DOT::Quire.decimal n))++([Quire.BLANK]++(QuireCopies.putText (h.put n)++ [QuireCopies.LF])) by simp,txV_app,txV_app,txV_app]
     simp [txV]
     exact ⟨rfl,rfl,rfl⟩
    have lt1:(txV (g.sig.text++(QuireCopies.DOT::Quire.decimal n))).length<=60:=by
     rw [txV_len,List.length_append,tw.sg]
     simp
     omega
    have lt2:(txV (QuireCopies.putText (h.put n))).length<=50:=by rw [txV_len];exact pl
    refine R.ret ?_
    refine R.Tbox (R.Tcat (R.Tx.tl (R.Tcat (R.Tx.tl (R.Tcat (R.Tx.tl (R.Tcat (xs:= [V.int 43]) (ys:=txV (g.sig.text++(QuireCopies.DOT::Quire.decimal n))) (R.Tx.tl (R.Tone R.Econ)) (fun H2 s2=>R.Tx.tl ?_) ?_)) (fun H2 s2=>R.Tx.tl (R.Tone R.Econ)) ?_)) (fun H2 s2=>R.Tl.var rfl (s2 _ _ htp)) ?_)) (fun H2 s2=>R.Tx.tl (R.Tone R.Econ)) ?_) (fun H' D p s2 n1 e e2=>k H' D [p] (s1.trans s2) (s1.free n1) e (.cons (by rw [e1];exact e2) .nil))
    ·intro Qv q
     have b1':=s2 _ _ (s1 _ _ b1)
     walk_at "go"
     exact ⟨(g.sig,n),⟨sg2,rfl,R.sqT_of (s2 _ _ (s1 _ _ hs2)),(by rw [tw.sg];exact tw.ok),(by show n < _;omega)⟩,fun r H' n e s=>q H' r s n e⟩
    all_goals (simp only [List.length_append,List.length_singleton] at*;exact small (by omega))
   refine R.ifE ?_
   refine ⟨_,rfl,R.truL (SqL.of d2) ?_⟩
   refine R.bbnif (fun h7=>?_) (fun h7=>?_)
   ·have e7:¬(h.put n).isEmpty=true:=by
     intro z
     cases hp:h.put n with
     |nil=>rw [hp] at h7;cases h7
     |cons _ _=>rw [hp] at z;cases z
    walk_at "go"
    refine ⟨h.put n,⟨p2,rfl,d2,d3⟩,fun r H' n1 e s1=>?_⟩
    refine R.name ?_
    refine step H' r s1 ?_
    have e8:QuireCopies.putText (h.put n)=putT (h.put n):=if_neg e7
    rw [e8]
    exact e
   ·have e7:h.put n= []:=by
     cases hp:h.put n with
     |nil=>rfl
     |cons _ _=>rw [hp] at h7;cases h7
    walk_at "go"
    refine ⟨_,_,0,rfl,.dig,by decide,by decide,fun r H' n1 e s1=>?_⟩
    refine R.name ?_
    exact step H' r s1 (by rw [e7];exact e)
end
theorem gap_len (g h:Gath) (k:Nat):(QuireCopies.lineGap g h k).length<=1:=by
 unfold QuireCopies.lineGap
 split<;>simp
theorem leafl_len (g h:Gath) (k:Nat):(QuireCopies.lineLeaf g h k).length<=1:=by
 unfold QuireCopies.lineLeaf
 split<;>simp
def linesTo (g h:Gath) (i:Nat):List Line:=QuireCopies.lineGap g h 0++(List.range i).flatMap fun k=>QuireCopies.lineLeaf g h k++QuireCopies.lineGap g h (k+1)
theorem linesTo_succ (g h:Gath) (i:Nat):linesTo g h (i+1)=(linesTo g h i++QuireCopies.lineLeaf g h i)++QuireCopies.lineGap g h (i+1):=by
 unfold linesTo
 rw [List.range_succ,List.flatMap_append,List.flatMap_singleton]
 simp
theorem linesTo_len (g h:Gath):∀i,(linesTo g h i).length<=1+2*i
 |0=>by unfold linesTo;simp;exact gap_len g h 0
 |i+1=>by
  have:=linesTo_len g h i
  have:=leafl_len g h i
  have:=gap_len g h (i+1)
  rw [linesTo_succ,List.length_append,List.length_append]
  omega
theorem lines_take (ls:List Line) (i:Nat):(QuireCopies.linesText (ls.take i)).length<=(QuireCopies.linesText ls).length:=by
 have e:QuireCopies.linesText ls=QuireCopies.linesText (ls.take i)++QuireCopies.linesText (ls.drop i):=by
  unfold QuireCopies.linesText
  rw [←List.flatMap_append,List.take_append_drop]
 rw [e,List.length_append]
 omega
section
variable {P:Program} {w:World} {K:W.Frag} {mg:Str->Option Value} {base:Heap} {a:Adr}
theorem ext_lines {H2:Hp} {D D2:Addr} {ps ps2:List Addr} {ls ls2:List Line} {Q:VK} (hD:H2 D=some (.lst (ps.map V.ref))) (hl:LinesAt H2 ls ps) (hD2:H2 D2=some (.lst (ps2.map V.ref))) (hl2:LinesAt H2 ls2 ps2) (le:ls.length+ls2.length<=1000000)
  (k:∀H3,(∀b o,b≠D->H2 b=some o->H3 b=some o)->H3 D=some (.lst ((ps++ps2).map V.ref))->LinesAt H3 (ls++ls2) (ps++ps2)->Q .non H3):rExtend (.ref D) [.ref D2] H2 Q:=by
 refine ⟨D,D2,_,_,rfl,rfl,hD,hD2,?_,k _ (fun b o n e=>by rw [upd_ne n];exact e) (by rw [upd_same,List.map_append]) (paired_app (hl.upd hD) (hl2.upd hD))⟩
 rw [List.length_map,List.length_map,←Paired.length hl,←Paired.length hl2]
 exact small le
def spQL (a:Adr):Sp:=fun vs H Q _=>∃q1 q2 g h,vs= [.ref q1,.ref q2]/\QIs a H q1 g/\QIs a H q2 h/\Twins g h/\outL H Q (QuireCopies.between g h)
theorem ok_53 (T:Txt K mg a):FnOk P w K mg base (CXd P w) 5 a.f_53 a.d_53 ["was","now"] (spQL a):=by
 refine okN T.u_53 sc_53 (fun vs H Q E h=>?_) (fun cdv A outer s H vs Q E hr h=>?_)
 ·obtain ⟨_,_,_,_,rfl,_⟩:=h;rfl
 ·obtain ⟨q1,q2,g,h,rfl,hQ1,hQ2,tw,k⟩:=h
  obtain ⟨sg2,lv2,gp2,⟨dx2,b1⟩,_⟩:=id hQ2
  have n20:=(size_le tw.wh.sz).2
  refine ⟨_,(pss_cons (ps_set (i:=2) sc_53.nd rfl (Or.inl rfl) (pe_call (ok_77 T) (rm hr) rfl T.m_77 T.u_77.kp (b_77 T) .nil passN (pa_cons (pv 0) (pa_cons (pv 1) (pa_cons pe_int pa_nil))))) (pss_cons (ps_for PassesOwn.never rfl (pi_range2 rfl T.b_range (pa_cons pe_int (pa_cons (pe_op op_add (pe_fld (pv 1) rfl) pe_int) pa_nil))) (pg_name (i:=3) sc_53.nd rfl (Or.inl rfl)) (pss_cons (ps_expr (pe_bm PySem.F.plainAttrs_list PySem.F.slot_list_extend PySem.F.type_list_extend mt_extend (pv 2) (pa_cons (pe_call (ok_64 T) (rm hr) rfl T.m_64 T.u_64.kp (b_64 T) .nil passN (pa_cons (pv 0) (pa_cons (pv 1) (pa_cons (pv 3) pa_nil)))) pa_nil))) (pss_one (ps_expr (pe_bm PySem.F.plainAttrs_list PySem.F.slot_list_extend PySem.F.type_list_extend mt_extend (pv 2) (pa_cons (pe_call (ok_77 T) (rm hr) rfl T.m_77 T.u_77.kp (b_77 T) .nil passN (pa_cons (pv 0) (pa_cons (pv 1) (pa_cons (pv 3) pa_nil)))) pa_nil)))))) (pss_one (ps_ret (pv 2))))),?_⟩
  walk_at "go0"
  refine ⟨q1,q2,g,h,0,rfl,hQ1,hQ2,tw,Nat.zero_le _,fun H1 D ps1 s1 n1 h1 hl1=>?_⟩
  have hq1:=s1 _ _ b1
  walk_at "go"
  walk_at "for"
  refine ⟨1,(h.size:Int)+1,rfl,⟨by omega,by omega,by omega,by omega⟩,?_⟩
  have en:((h.size:Int)+1 - 1).toNat=h.size:=by omega
  rw [en]
  have hbet:QuireCopies.between g h=linesTo g h h.size:=by
   unfold QuireCopies.between linesTo
   rw [tw.sz]
  rw [hbet] at k
  refine for_range (fun i σ H'=>∃(v3:Option V) (ps:List Addr),σ= [some (.ref q1),some (.ref q2),some (.ref D),v3]/\Same H H'/\H' D=some (.lst (ps.map V.ref))/\LinesAt H' (linesTo g h i) ps) ⟨none,ps1,rfl,s1,h1,by unfold linesTo;simpa using hl1⟩ ?_ ?_
  ·rintro i σ H' hi ⟨v3,ps,rfl,s5,hD5,hl5⟩
   have ei:((1:Int)+(i:Int))=((i+1:Nat):Int):=by omega
   have ll:=linesTo_len g h i
   have g1:=leafl_len g h i
   have g2:=gap_len g h (i+1)
   rw [ei]
   walk_at "go"
   refine ⟨.inl ⟨rfl,_,SqL.of hD5⟩,?_⟩
   walk_at "go"
   refine ⟨q1,q2,g,h,i,rfl,hQ1.same s5,hQ2.same s5,tw,hi,fun H6 D6 ps6 s6 n6 h6 hl6=>?_⟩
   walk_at "go"
   refine ext_lines (s6 _ _ hD5) (hl5.same s6) h6 hl6 (by omega) (fun H7 f7 hD7 hl7=>?_)
   have s7:Same H H7:=fun b o e=>f7 b o (ne_of_none e n1) (s6 _ _ (s5 _ _ e))
   walk_at "go"
   refine ⟨.inl ⟨rfl,_,SqL.of hD7⟩,?_⟩
   walk_at "go"
   refine ⟨q1,q2,g,h,i+1,rfl,hQ1.same s7,hQ2.same s7,tw,hi,fun H8 D8 ps8 s8 n8 h8 hl8=>?_⟩
   walk_at "go"
   refine ext_lines (s8 _ _ hD7) (hl7.same s8) h8 hl8 (by rw [List.length_append];omega) (fun H9 f9 hD9 hl9=>?_)
   exact ⟨_,_,rfl,fun b o e=>f9 b o (ne_of_none e n1) (s8 _ _ (s7 _ _ e)),hD9,by rw [linesTo_succ];exact hl9⟩
  ·rintro σ H' ⟨v3,ps,rfl,s5,hD5,hl5⟩
   walk_at "go"
   exact k H' D ps s5 n1 hD5 hl5
def spLA:Sp:=fun vs H Q _=>∃D ps ls,vs= [.ref D]/\H D=some (.lst (ps.map V.ref))/\LinesAt H ls ps/\(QuireCopies.linesText ls).length<=1000000/\∀H' r,H' r=some (.lst (txV ((QuireCopies.linesText ls).length::QuireCopies.linesText ls)))->Q (.ref r) H'
theorem ok_38 (T:Txt K mg a):FnOk P w K mg base (CXd P w) 2 a.f_38 a.d_38 ["lines"] spLA:=by
 refine okN T.u_38 sc_38 (fun vs H Q E h=>?_) (fun cdv A outer s H vs Q E hr h=>?_)
 ·obtain ⟨_,_,_,rfl,_⟩:=h;rfl
 ·obtain ⟨D,ps,ls,rfl,hD,hl,hlen,k⟩:=h
  refine ⟨_,(pss_cons (ps_set (i:=1) sc_38.nd rfl (Or.inl rfl) (pe_lst pa_nil)) (pss_cons (ps_for PassesOwn.never rfl (pi_list (pv 0)) (pg_name (i:=2) sc_38.nd rfl (Or.inl rfl)) (pss_one (ps_expr (pe_bm PySem.F.plainAttrs_list PySem.F.slot_list_extend PySem.F.type_list_extend mt_extend (pv 1) (pa_cons (pv 2) pa_nil))))) (pss_one (ps_ret (pe_call (ok_56 T) (rm hr) rfl T.m_56 T.u_56.kp (b_56 T) .nil passN (pa_cons (pv 1) pa_nil)))))),?_⟩
  walk_at "go0"
  refine ⟨Nat.zero_le _,fun l hl0=>?_⟩
  have nw:=R.new_of (o:= .lst []) hl0
  generalize upd H l (.lst [])=H1 at nw⊢
  obtain ⟨n1,h1,s1⟩:=nw
  walk_at "go"
  walk_at "for"
  refine R.kil (SqL.of (s1 _ _ hD)) ?_
  have pl:ps.length=ls.length:=(Paired.length hl).symm
  refine for_list (xs:=ps.map V.ref) (fun i σ H'=>∃v2:Option V,σ= [some (.ref D),some (.ref l),v2]/\Same H H'/\H' l=some (.lst (txV (QuireCopies.linesText (ls.take i))))) ⟨none,rfl,s1,h1⟩ ?_ ?_ ?_
  ·rintro i σ H' _ ⟨v2,rfl,s5,_⟩
   exact SqL.of (s5 _ _ hD)
  ·rintro i x σ H' hx ⟨v2,rfl,s5,hl5⟩
   rw [List.getElem?_map] at hx
   obtain ⟨p,hp,rfl⟩:=Option.map_eq_some_iff.mp hx
   obtain ⟨ln,hln,hpt⟩:=paired_get2 hl hp
   have e1:QuireCopies.linesText (ls.take (i+1))=QuireCopies.linesText (ls.take i)++ln.text:=by
    rw [List.take_succ,hln]
    unfold QuireCopies.linesText
    rw [List.flatMap_append]
    simp
   have e2:(QuireCopies.linesText (ls.take (i+1))).length<=1000000:=Nat.le_trans (lines_take ls (i+1)) hlen
   rw [e1,List.length_append] at e2
   walk_at "go"
   refine ⟨.inl ⟨rfl,_,SqL.of hl5⟩,?_⟩
   walk_at "go"
   refine ⟨l,p,_,_,rfl,rfl,hl5,s5 _ _ hpt,by rw [txV_len,txV_len];exact small e2,_,rfl,fun b o e=>?_,?_⟩
   ·rw [upd_ne (ne_of_none e n1)]
    exact s5 _ _ e
   ·rw [upd_same,e1,txV_app]
  ·rintro σ H' ⟨v2,rfl,s5,hl5⟩
   rw [List.length_map,pl,List.take_length] at hl5
   walk_at "go"
   refine ⟨l,_,rfl,hl5,by rw [txV_len];exact hlen,fun r H6 e=>k H6 r ?_⟩
   rw [e,txV_len]
   rfl
end
def Bk (a:Adr) (H:Hp) (m:List Gath) (qs:List Addr):Prop:=Paired (fun g q=>QIs a H q g) m qs
theorem Bk.same {a:Adr} {H H':Hp} {m:List Gath} {qs:List Addr} (h:Bk a H m qs) (s:Same H H'):Bk a H' m qs:=R.paired_imp (fun _ _ x=>x.same s) h
theorem Book.bk {a:Adr} {H:Hp} {z:Addr} {m:List Gath} {qs:List Addr} (h:Book a H z m qs):Bk a H m qs:=R.paired_imp (fun _ _ x=>x.is) h
def mvL (c:List Gath) (i:Nat) (g:Gath):Line:= .move g.sig (if i=0 then none else (c[i - 1]?).map Gath.sig)
section
variable {P:Program} {w:World} {K:W.Frag} {mg:Str->Option Value} {base:Heap} {a:Adr}
def spMv (a:Adr):Sp:=fun vs H Q _=>∃cl qs c,∃(i:Nat) (g:Gath),vs= [.ref cl,.int (i:Int)]/\H cl=some (.lst (qs.map V.ref))/\Bk a H c qs/\c[i]? =some g/\(∀g∈c,g.sig.ok=true)/\
 ∀H' p,Same H H'->H p=none->H' p=some (.lst (txV (mvL c i g).text))->Q (.ref p) H'
theorem ok_79 (T : Txt K mg a) : FnOk P w K mg base (CXd P w) 3 a.f_79 a.d_79 ["copy", "place"] (spMv a) := by
 refine okN T.u_79 sc_79 (fun vs H Q E h => ?_) (fun cdv A outer s H vs Q E hr h => ?_)
 ·obtain ⟨_, _, _, _, _, rfl, _⟩ := h; rfl
 ·obtain ⟨cl, qs, c, i, g, rfl, hcl, hb, hg, oks, k⟩ := h
  refine ⟨_, (pss_cons (ps_set (i := 2) sc_79.nd rfl (Or.inl rfl) (pe_op op_cat (pe_lst (pa_cons (g_138 T) pa_nil)) (pe_call (ok_21 T) (rm hr) rfl T.m_21 T.u_21.kp (b_21 T) .nil passN (pa_cons (pe_fld (pe_ix ix_list (pv 0) (pv 1) (fun _ _ => rfl)) rfl) pa_nil)))) (pss_cons (ps_if (pt_cmpR op_gt (pv 1) pe_int (nomark _)) (pss_cons (ps_expr (pe_bm PySem.F.plainAttrs_list PySem.F.slot_list_append PySem.F.type_list_append mt_append (pv 2) (pa_cons (g_154 T) pa_nil))) (pss_one (ps_expr (pe_bm PySem.F.plainAttrs_list PySem.F.slot_list_extend PySem.F.type_list_extend mt_extend (pv 2) (pa_cons (pe_call (ok_21 T) (rm hr) rfl T.m_21 T.u_21.kp (b_21 T) .nil passN (pa_cons (pe_fld (pe_ix ix_list (pv 0) (pe_op op_sub (pv 1) pe_int) (fun _ _ => rfl)) rfl) pa_nil)) pa_nil))))) pss_nil) (pss_cons (ps_expr (pe_bm PySem.F.plainAttrs_list PySem.F.slot_list_append PySem.F.type_list_append mt_append (pv 2) (pa_cons (g_72 T) pa_nil))) (pss_one (ps_ret (pv 2)))))), ?_⟩
  obtain ⟨q, hq, sg, lv, gp, ⟨dx, b1⟩, b2, _⟩ := paired_get hb hg
  have okg := oks g (List.mem_of_getElem? hg)
  have l1 := text_len okg
  (try dsimp only [L2.cxOf, L2.Cx.nox, L2.Cx.wish, L2.Cx.blk])
  refine R.seq (R.asg ?_)
  have atq : ∀ {j : Nat} {q : Addr}, qs[j]? = some q -> atI (qs.map V.ref) (j : Int) = some (.ref q) := fun h => atI_nat (by rw [List.getElem?_map, h]; rfl)
  refine R.tx (R.Tcat (xs := [V.int 62]) (ys := txV g.sig.text) (R.Tx.tl (R.Tone R.Econ)) (fun H1 s1 => R.Tx.tl ?_) (by rw [txV_len]; exact small (by simp; omega))) (fun H1 l s1 n1 e1 => ?_)
  ·intro Qv qv
   walk_at "go"
   refine R.ixl (SqL.of (s1 _ _ hcl)) (atq hq) ?_
   have b1' := s1 _ _ b1
   walk_at "go"
   exact ⟨g.sig, ⟨sg, rfl, R.sqT_of (s1 _ _ b2), okg⟩, fun r H' n e s => qv H' r s n e⟩
  ·have e1' : H1 l = some (.lst (txV (QuireCopies.MOVE :: g.sig.text))) := e1
   clear e1
   walk_at "go"
   refine R.dif (fun h0 => ?_) (fun h0 => ?_) <;> walk_at "go"
   ·obtain ⟨j, rfl⟩ : ∃ j, i = j + 1 := ⟨i - 1, by omega⟩
    obtain ⟨g', hg'⟩ : ∃ g', c[j]? = some g' := ⟨c[j]'(by have := (List.getElem?_eq_some_iff.mp hg).1; omega), List.getElem?_eq_getElem _⟩
    obtain ⟨q', hq', sg', lv', gp', ⟨dx', b1'⟩, b2', _⟩ := paired_get hb hg'
    have okg' := oks g' (List.mem_of_getElem? hg')
    have l2 := text_len okg'
    refine ⟨.inl ⟨rfl, _, SqL.of e1'⟩, ?_⟩
    walk_at "go"
    refine ⟨l, _, _, rfl, rfl, e1', by rw [txV_len]; simp; rw [sizeLine_eq]; omega, ?_⟩
    have s2 : Same H (upd H1 l (.lst (txV (QuireCopies.MOVE :: g.sig.text) ++ [V.int 32]))) := fun b o e => by rw [upd_ne (ne_of_none e n1)]; exact s1 _ _ e
    have e2 : (upd H1 l (.lst (txV (QuireCopies.MOVE :: g.sig.text) ++ [V.int 32]))) l = some (.lst (txV (QuireCopies.MOVE :: g.sig.text ++ [Quire.BLANK]))) := by rw [upd_same, txV_app]; rfl
    generalize upd H1 l (.lst (txV (QuireCopies.MOVE :: g.sig.text) ++ [V.int 32])) = H2 at s2 e2 ⊢
    walk_at "go"
    refine ⟨.inl ⟨rfl, _, SqL.of e2⟩, ?_⟩
    walk_at "go"
    have ej : (((j + 1 : Nat) : Int) - 1) = (j : Int) := by omega
    rw [ej]
    refine R.ixl (SqL.of (s2 _ _ hcl)) (atq hq') ?_
    have b1'' := s2 _ _ b1'
    walk_at "go"
    refine ⟨g'.sig, ⟨sg', rfl, R.sqT_of (s2 _ _ b2'), okg'⟩, fun r H3 n3 e3 s3 => ?_⟩
    walk_at "go"
    refine ⟨l, r, _, _, rfl, rfl, s3 _ _ e2, e3, by rw [txV_len, txV_len]; simp; rw [sizeLine_eq]; omega, ?_⟩
    rw [← txV_app]
    have s4 : Same H (upd H3 l (.lst (txV ((QuireCopies.MOVE :: g.sig.text ++ [Quire.BLANK]) ++ g'.sig.text)))) := fun b o e => by rw [upd_ne (ne_of_none e n1)]; exact s3 _ _ (s2 _ _ e)
    have e4 : (upd H3 l (.lst (txV ((QuireCopies.MOVE :: g.sig.text ++ [Quire.BLANK]) ++ g'.sig.text)))) l = _ := upd_same
    generalize upd H3 l (.lst (txV ((QuireCopies.MOVE :: g.sig.text ++ [Quire.BLANK]) ++ g'.sig.text))) = H4 at s4 e4 ⊢
    walk_at "go"
    refine ⟨.inl ⟨rfl, _, SqL.of e4⟩, ?_⟩
    walk_at "go"
    refine ⟨l, _, _, rfl, rfl, e4, by rw [txV_len]; simp; rw [sizeLine_eq]; omega, ?_⟩
    walk_at "go"
    refine k _ l (fun b o e => by rw [upd_ne (ne_of_none e n1)]; exact s4 _ _ e) n1 ?_
    rw [upd_same]
    unfold mvL
    rw [if_neg (by omega), Nat.add_sub_cancel, hg']
    show some (HO.lst (txV _ ++ txV [QuireCopies.LF])) = _
    rw [← txV_app]
    congr 3
    show _ = QuireCopies.MOVE :: (g.sig.text ++ (Quire.BLANK :: (g'.sig.text ++ [QuireCopies.LF])))
    simp
   ·have e0 : i = 0 := by omega
    subst e0
    refine ⟨.inl ⟨rfl, _, SqL.of e1'⟩, ?_⟩
    walk_at "go"
    refine ⟨l, _, _, rfl, rfl, e1', by rw [txV_len]; simp; rw [sizeLine_eq]; omega, ?_⟩
    walk_at "go"
    refine k _ l (fun b o e => by rw [upd_ne (ne_of_none e n1)]; exact s1 _ _ e) n1 ?_
    rw [upd_same]
    show some (HO.lst (txV _ ++ txV [QuireCopies.LF])) = _
    rw [← txV_app]
    rfl
end
end Q
namespace R
open PySem PySem.Spec PyProof.Rows L2 XL
theorem yes {σ:L2.St} {H:Hp} {A B:Hp->Prop} (h:A H):tYes σ H (fun b H3=>if b=true then A H3 else B H3):=iteT (A:=A H) (B:=B H) h
end R
namespace Q
open PySem PySem.Spec PyProof.Rows L2 XL
open Quire (Sign Word Sig Gath Fate)
open QuireCopies (Line)
def sgD (m:List Gath) (f:Gath->V):HO:= .dT (m.map fun g=>(kyS g.sig,f g))
theorem mergeT_nodup:∀(more acc:List (List Key×V)),((acc++more).map (·.1)).Nodup->mergeT acc more=acc++more
 | [],acc,_=>by rw [List.append_nil];rfl
 |kv::more,acc,h=>by
  show mergeT (putK acc kv.1 kv.2) more=_
  have hn:valV acc kv.1=none:=by
   cases hv:valV acc kv.1 with
   |none=>rfl
   |some v=>
    exfalso
    have m1:=valV_in hv
    rw [List.map_append,List.nodup_append] at h
    exact h.2.2 _ m1 kv.1 (by simp) rfl
  rw [putK_new _ hn]
  have e:acc++ [(kv.1,kv.2)]++more=acc++kv::more:=by simp
  rw [mergeT_nodup more (acc++ [(kv.1,kv.2)]) (by rw [e];exact h),e]
theorem nodup_inj {α β:Type} {f:α->β} (hf:∀a b,f a=f b->a=b):∀{l:List α},l.Nodup->(l.map f).Nodup
 | [],_=>List.nodup_nil
 |x::l,h=>by
  rw [List.map_cons,List.nodup_cons]
  rw [List.nodup_cons] at h
  refine ⟨fun m=>?_,nodup_inj hf h.2⟩
  obtain ⟨y,hy,e⟩:=List.mem_map.mp m
  exact h.1 (hf _ _ e▸hy)
theorem merge_sig {m:List Gath} {ys:List (List Key×V)} {f:Gath->V} (hn:(m.map Gath.sig).Nodup) (e:ys=m.map fun g=>(kyS g.sig,f g)):mergeT [] ys=ys:=by
 have:=mergeT_nodup ys [] (by
  rw [List.nil_append,e,List.map_map]
  have e2:(((fun x:List Key×V=>x.1)∘fun g:Gath=>(kyS g.sig,f g)):Gath->List Key)=kyS∘Gath.sig:=rfl
  rw [e2,←List.map_map]
  exact nodup_inj (fun a b h=>kyS_inj h) hn)
 simpa using this
def PrS (H:Hp) (D x:Addr) (s:Sig) (v:V):Prop:=∃sg,H x=some (.tup [.ref sg,v])/\H sg=some (.tup (sgV s))/\x≠D/\sg≠D
theorem PrS.frD {H H':Hp} {D x:Addr} {s:Sig} {v:V} (h:PrS H D x s v) (f:R.FrD D H H'):PrS H' D x s v:=by
 obtain ⟨sg,h1,h2,h3,h4⟩:=h
 exact ⟨sg,f _ _ h3 h1,f _ _ h4 h2,h3,h4⟩
theorem prs_of {K:W.Frag} {H:Hp} {D:Addr} {f:Gath->V}:∀{m:List Gath} {xs:List Addr},Paired (fun g x=>PrS H D x g.sig (f g)) m xs->Paired (fun p kv=>PrT K H p kv) xs (m.map fun g=>(kyS g.sig,f g))
 |_,_,.nil=> .nil
 |_,_,.cons ⟨sg,h1,h2,_⟩ t=> .cons ⟨sg,R.sqT_of h1,h2⟩ (prs_of t)
section
variable {P:Program} {w:World} {K:W.Frag} {mg:Str->Option Value} {base:Heap} {a:Adr}
def spSS (a:Adr):Sp:=fun vs H Q _=>∃ql qs m,vs= [.ref ql]/\H ql=some (.lst (qs.map V.ref))/\Bk a H m qs/\m.length<=48/\(m.map Gath.sig).Nodup/\∀H' d,Same H H'->H d=none->H' d=some (sgD m fun g=> .int (g.size:Int))->Q (.ref d) H'
theorem ok_1 (T:Txt K mg a):FnOk P w K mg base (CXd P w) 1 a.f_1 a.d_1 ["quires"] (spSS a):=by
 refine okN T.u_1 sc_1 (fun vs H Q E h=>?_) (fun cdv A outer s H vs Q E hr h=>?_)
 ·obtain ⟨_,_,_,rfl,_⟩:=h;rfl
 ·obtain ⟨ql,qs,m,rfl,hq,hb,ml,nd,k⟩:=h
  refine ⟨_,(pss_one (ps_ret (pe_callTy (call_dictT hr.units rfl) (by rfl) T.b_dict (by rfl) (pa_cons (pe_lc rfl sc_1.nd (pi_list (pv 0)) (blkOk_by (own:= [("quire",1)]) rfl) (fun _ _ _ _ _=>(pg_name (i:=1) sc_1.nd rfl (Or.inl rfl))) (fun _ _ _ _ _=>pts_nil) (fun _ _ _ _ _=>(pe_tup (pa_cons (pe_fldK (K:=K) rfl (pv 1) rfl) (pa_cons (pe_fldK (K:=K) rfl (pv 1) rfl) pa_nil))))) pa_nil)))),?_⟩
  walk_at "go0"
  have ql':qs.length=m.length:=(Paired.length hb).symm
  refine R.kil (SqL.of hq) ?_
  refine R.lc_gen m.length (fun _=>true) (fun i x _=>(qs.map V.ref)[i]? =some x) (fun D i y H=>∃x,y= .ref x/\∃g,m[i]? =some g/\PrS H D x g.sig (.int (g.size:Int)))
   (fun D i y H H' f h=>?_) (small (by omega)) (by rw [←ql'];have:=R.itl_go (SqL.of (K:=K) hq);rw [List.length_map] at this;exact this) (by rw [←ql'];have:=R.itl_stop (SqL.of (K:=K) hq);rw [List.length_map] at this;exact this)
   (by rw [←ql'];have:=R.itl_yld (SqL.of (K:=K) hq);rw [List.length_map] at this;exact this) (fun i y H4 D Y Z hi sm hD hacc yr yes no=>?_) (fun D ys H3 hD hys sm hp=>?_)
  ·obtain ⟨x,e1,g,e2,e3⟩:=h
   exact ⟨x,e1,g,e2,e3.frD f⟩
  ·obtain ⟨acc,hacc⟩:=hacc
   obtain ⟨g,hg⟩:∃g,m[i]? =some g:=⟨m[i],List.getElem?_eq_getElem hi⟩
   obtain ⟨q,hqi,sg,lv,gp,⟨dx,b1⟩,b2,_⟩:=paired_get hb hg
   rw [List.getElem?_map,hqi] at yr
   injection yr with yr
   subst yr
   have b1':=sm _ _ b1
   have b2':=sm _ _ b2
   refine ⟨rfl,?_⟩
   refine R.yes ?_
   walk_at "go"
   refine ⟨by show 2<=sizeLine;rw [sizeLine_eq];omega,fun x hx=>?_⟩
   have sx:=(R.new_of (o:= .tup [.ref sg,.int (g.size:Int)]) hx).2.2
   exact yes _ _ sx rfl ⟨x,rfl,g,hg,sg,upd_same,sx _ _ b2',(ne_of_none hacc hx).symm,fun z=>by rw [z,hacc] at b2';cases b2'⟩
  ·rw [List.filter_eq_self.mpr (fun _ _=>rfl)] at hp
   obtain ⟨xs,rfl,hx⟩:=paired_refs (F:=fun i x=>∃g,m[i]? =some g/\PrS H3 D x g.sig (.int (g.size:Int))) hp
   have hx:=paired_range hx
   walk_at "go"
   refine ⟨D,xs,m.map fun g=>(kyS g.sig,.int (g.size:Int)),rfl,SqL.of hys,prs_of hx,fun p hp=>?_⟩
   rw [merge_sig nd rfl]
   exact k _ p (sm.trans (R.new_of hp).2.2) (sm.free hp) upd_same
end
theorem find_gath (b:List Gath) (s:Sig):(b.find? fun x=>decide (x.sig=s))=QuireCopies.gathOf b s:=by
 unfold QuireCopies.gathOf
 refine congrArg (fun p=>b.find? p) (funext fun x=>?_)
 by_cases h:x.sig=s
 ·rw [decide_eq_true h,beq_iff_eq.mpr h]
 ·rw [decide_eq_false h]
  cases e:(x.sig==s) with
  |false=>rfl
  |true=>exact absurd (beq_iff_eq.mp e) h
theorem sgD_val (m:List Gath) (f:Gath->V) (s:Sig):valV (m.map fun g=>(kyS g.sig,f g)) (kyS s)=(QuireCopies.gathOf m s).map f:=by
 rw [valV_sig Gath.sig f,find_gath]
def oneIn (b:List Gath) (h:Gath):Bool:=match QuireCopies.gathOf b h.sig with
 |some g=>g.size==h.size
 |none=>false
def RzN (a:Adr) (E:XK):Prop:=∀H' dx f v,H' dx=some (.xd [(f,v)])->E (.ref a.c_74) (some dx) H'
section
variable {P:Program} {w:World} {K:W.Frag} {mg:Str->Option Value} {base:Heap} {a:Adr}
theorem ok_14 (T:Txt K mg a):FnOk P w K mg base (CXd P w) 1 a.f_14 a.d_14 ["self","signature"] (spX a.c_74 "signature"):=by
 refine okN T.u_14 sc_14 (fun vs H Q E h=>?_) (fun cdv A outer s H vs Q E hr h=>?_)
 ·obtain ⟨_,_,rfl,_⟩:=h;rfl
 ·obtain ⟨e,v,rfl,he,k⟩:=h
  refine ⟨_,(pss_one (ps_xfld T.xc_74 (pv 0) (pv 1) rfl)),?_⟩
  exact ⟨_,rfl,_,rfl,e,rfl,he,fun dx hd=>k dx hd⟩
structure BC (a:Adr) (H:Hp) (bl cl:Addr) (b c:List Gath) (bs cs:List Addr):Prop where
 hb:H bl=some (.lst (bs.map V.ref))
 hc:H cl=some (.lst (cs.map V.ref))
 kb:Bk a H b bs
 kc:Bk a H c cs
 mb:MkOk b
 mc:MkOk c
theorem BC.same {H H':Hp} {bl cl:Addr} {b c:List Gath} {bs cs:List Addr} (h:BC a H bl cl b c bs cs) (s:Same H H'):BC a H' bl cl b c bs cs:=⟨s _ _ h.hb,s _ _ h.hc,h.kb.same s,h.kc.same s,h.mb,h.mc⟩
theorem MkOk.len {m:List Gath} (h:MkOk m):m.length<=48:=by have:=h.kok.len;rw [List.length_map] at this;exact this
def spAB (a:Adr):Sp:=fun vs H Q E=>∃bl cl b c bs cs,vs= [.ref bl,.ref cl]/\BC a H bl cl b c bs cs/\if QuireCopies.within b c=true then ∀H',Same H H'->Q .non H' else RzN a E
theorem ok_134 (T:Txt K mg a):FnOk P w K mg base (CXd P w) 3 a.f_134 a.d_134 ["book","copy"] (spAB a):=by
 refine okX T.u_134 sc_134 (fun vs H Q E h=>?_) (fun cdv A outer s H vs Q E hr h=>?_)
 ·obtain ⟨_,_,_,_,_,_,rfl,_⟩:=h;rfl
 ·obtain ⟨bl,cl,b,c,bs,cs,rfl,bc,k⟩:=h
  refine ⟨_,(pss_cons (ps_set (i:=2) sc_134.nd rfl (Or.inl rfl) (pe_call (ok_1 T) (rm hr) rfl T.m_1 T.u_1.kp (b_1 T) .nil passN (pa_cons (pv 0) pa_nil))) (pss_one (ps_for passOwnD rfl (pi_list (pv 1)) (pg_name (i:=3) sc_134.nd rfl (Or.inl rfl)) (pss_one (ps_if (pt_cmpR op_ne (pe_dget1 (hu_of hr) (pv 2) (pe_fld (pv 3) rfl) ⟨rfl,rfl,rfl,rfl⟩) (pe_fld (pv 3) rfl) (nomark _)) (pss_one (ps_raise T.xc_74 (ok_14 T) (rm hr) rfl T.m_74 (b_14 T) passD (pa_cons (pe_fld (pv 3) rfl) pa_nil))) pss_nil))))),?_⟩
  walk_at "go0"
  refine ⟨bl,bs,b,rfl,bc.hb,bc.kb,bc.mb.len,bc.mb.kok.nd,fun H1 d s1 n1 h1=>?_⟩
  walk_at "go"
  walk_at "for"
  refine R.kil (SqL.of (s1 _ _ bc.hc)) ?_
  have cl':cs.length=c.length:=(Paired.length bc.kc).symm
  refine for_list (xs:=cs.map V.ref) (fun i σ H'=>∃v3:Option V,σ= [some (.ref bl),some (.ref cl),some (.ref d),v3]/\H'=H1/\QuireCopies.within b (c.take i)=true) ⟨none,rfl,rfl,rfl⟩ ?_ ?_ ?_
  ·rintro i σ H' _ ⟨v3,rfl,rfl,_⟩
   exact SqL.of (s1 _ _ bc.hc)
  ·rintro i x σ H' hx ⟨v3,rfl,rfl,hw⟩
   rw [List.getElem?_map] at hx
   obtain ⟨q,hq,rfl⟩:=Option.map_eq_some_iff.mp hx
   obtain ⟨h,hh,sg,lv,gp,⟨dx,b1⟩,b2,_⟩:=paired_get2 (bc.kc.same s1) hq
   walk_at "go"
   refine ⟨_,rfl,d,rfl,.inr ⟨_,.inl h1⟩,?_⟩
   walk_at "go"
   refine ⟨_,DGet.t (k:=kyS h.sig) h1 b2,?_⟩
   rw [sgD_val]
   walk_at "go"
   have ew:QuireCopies.within b (c.take (i+1))=oneIn b h:=by
    rw [List.take_succ,hh]
    unfold QuireCopies.within at hw⊢
    rw [List.all_append,hw]
    simp [oneIn]
    rfl
   cases hg:QuireCopies.gathOf b h.sig with
   |none=>
    refine R.ne_ rfl (R.bl ?_)
    walk_at "go"
    refine iteT ?_
    walk_at "go"
    have nw:¬QuireCopies.within b c=true:=fun z=>by
     have this:oneIn b h=true:=List.all_eq_true.mp z h (List.mem_of_getElem? hh)
     unfold oneIn at this
     rw [hg] at this
     cases this
    rw [if_neg nw] at k
    exact ⟨_,rfl,fun dx2 hd=>k _ _ _ _ upd_same⟩
   |some g=>
    refine R.ne_ rfl (R.bl (R.nif (fun h6=>?_) (fun h6=>?_)))<;>walk_at "go"
    ·have ne:¬g.size=h.size:=fun z=>h6 (by show V.int (g.size:Int)=_;rw [z])
     have nw:¬QuireCopies.within b c=true:=fun z=>by
      have this:oneIn b h=true:=List.all_eq_true.mp z h (List.mem_of_getElem? hh)
      unfold oneIn at this
      rw [hg] at this
      exact ne (beq_iff_eq.mp this)
     rw [if_neg nw] at k
     exact ⟨_,rfl,fun dx2 hd=>k _ _ _ _ upd_same⟩
    ·have eq:g.size=h.size:=by
      have e:V.int (g.size:Int)=V.int (h.size:Int):=h6
      injection e with e
      omega
     refine ⟨_,rfl,rfl,?_⟩
     rw [ew]
     unfold oneIn
     rw [hg]
     exact beq_iff_eq.mpr eq
  ·rintro σ H' ⟨v3,rfl,rfl,hw⟩
   rw [List.length_map,cl',List.take_length] at hw
   rw [if_pos hw] at k
   exact k H' s1
end
end Q
namespace R
open PySem PySem.Spec PyProof.Rows L2 XL
section
variable {σ:L2.St} {H:Hp} {Q:VK}
theorem dnotin {ty td:TE} (h:ty σ H fun y H1=>td σ H1 fun x H2=>∃a o,x= .ref a/\DGet H2 a y o/\Q (.bl (!o.isSome)) H2):tDNotIn ty td σ H Q:=h
theorem din {ty td:TE} (h:ty σ H fun y H1=>td σ H1 fun x H2=>∃a o,x= .ref a/\DGet H2 a y o/\Q (.bl o.isSome) H2):tDIn ty td σ H Q:=h
theorem dget {ty td:TE} (h:td σ H fun x H1=>ty σ H1 fun y H2=>∃a v,x= .ref a/\DGet H2 a y (some v)/\Q v H2):tDGet td ty σ H Q:=h
end
end R
namespace Q
open PySem PySem.Spec PyProof.Rows L2 XL
open Quire (Sign Word Sig Gath Fate)
open QuireCopies (Line)
theorem paired_filt {α β:Type} {F:α->β->Prop} {l:List α} {p:Nat->Bool} {pg:α->Bool} (hp:∀i x,l[i]? =some x->p i=pg x):∀(l':List α) (k:Nat) {bs:List β},l.drop k=l'->Paired (fun i b=>∃s,l[i]? =some s/\F s b) ((List.range' k l'.length).filter p) bs->Paired F (l'.filter pg) bs
 | [],_,_,_,h=>by
  cases h
  exact .nil
 |x::l',k,bs,e,h=>by
  have e1:l[k]? =some x:=by
   have:(l.drop k)[0]? =some x:=by rw [e];rfl
   rw [List.getElem?_drop] at this
   exact this
  have e2:l.drop (k+1)=l':=by
   have:(l.drop k).drop 1=l':=by rw [e];rfl
   rw [List.drop_drop] at this
   exact this
  rw [List.length_cons,List.range'_succ,List.filter_cons,hp k x e1] at h
  rw [List.filter_cons]
  cases hx:pg x with
  |true=>
   rw [hx,if_pos rfl] at h
   rw [if_pos rfl]
   cases h with
   |cons h1 h2=>
    obtain ⟨s,h3,h4⟩:=h1
    rw [e1] at h3
    injection h3 with h3
    subst h3
    exact .cons h4 (paired_filt hp l' (k+1) e2 h2)
  |false=>
   rw [hx,if_neg Bool.false_ne_true] at h
   rw [if_neg Bool.false_ne_true]
   exact paired_filt hp l' (k+1) e2 h
theorem paired_filter {α β:Type} {F:α->β->Prop} {l:List α} {p:Nat->Bool} {pg:α->Bool} {bs:List β} (hp:∀i x,l[i]? =some x->p i=pg x) (h:Paired (fun i b=>∃s,l[i]? =some s/\F s b) ((List.range l.length).filter p) bs):Paired F (l.filter pg) bs:=
 paired_filt hp l 0 rfl (by rw [←List.range_eq_range'];exact h)
theorem paired_refs2 {α:Type} {F:α->Addr->Prop}:∀{l:List α} {ys:List V},Paired (fun i y=>∃b,y=V.ref b/\F i b) l ys->∃bs,ys=bs.map V.ref/\Paired F l bs
 |_,_,.nil=>⟨[],rfl,.nil⟩
 |_,_,.cons ⟨b,e,h⟩ t=>by
  obtain ⟨bs,e2,h2⟩:=paired_refs2 t
  exact ⟨b::bs,by rw [e,e2];rfl,.cons h h2⟩
section
variable {P:Program} {w:World} {K:W.Frag} {mg:Str->Option Value} {base:Heap} {a:Adr}
def lackL (b c:List Gath):List Line:=(b.filter fun g=> !QuireCopies.has c g.sig).map fun g=>Line.gone g.sig
def spLk (a:Adr):Sp:=fun vs H Q E=>∃bl cl b c bs cs,vs= [.ref bl,.ref cl]/\BC a H bl cl b c bs cs/\outL H Q (lackL b c)
theorem ok_63 (T:Txt K mg a):FnOk P w K mg base (CXd P w) 3 a.f_63 a.d_63 ["book","copy"] (spLk a):=by
 refine okN T.u_63 sc_63 (fun vs H Q E h=>?_) (fun cdv A outer s H vs Q E hr h=>?_)
 ·obtain ⟨_,_,_,_,_,_,rfl,_⟩:=h;rfl
 ·obtain ⟨bl,cl,b,c,bs,cs,rfl,bc,k⟩:=h
  refine ⟨_,(pss_cons (ps_set (i:=2) sc_63.nd rfl (Or.inr rfl) (pe_call (ok_1 T) (rm hr) rfl T.m_1 T.u_1.kp (b_1 T) .nil passN (pa_cons (pv 1) pa_nil))) (pss_cons (ps_setLc (i:=3) rfl sc_63.nd rfl rfl rfl (pi_list (pv 0)) (blkOk_by (own:= [("quire",4)]) rfl) (fun _ _ _ _ _=>(pg_name (i:=4) sc_63.nd rfl (Or.inl rfl))) (fun _ _ _ _ _=>(pts_one (pt_cmp (pc_dnotin (hu_of hr) (pe_fldK (K:=K) rfl (pv 4) rfl) (pv 2))))) (fun _ _ _ _ _=>(pe_fldK (K:=K) rfl (pv 4) rfl))) (pss_one (ps_ret (pe_lc rfl sc_63.nd (pi_list (pv 3)) (blkOk_by (own:= [("signature",5)]) rfl) (fun _ _ _ _ _=>(pg_name (i:=5) sc_63.nd rfl (Or.inl rfl))) (fun _ _ _ _ _=>pts_nil) (fun _ _ _ _ _=>(pe_op op_cat (pe_op op_cat (pe_lst (pa_cons (g_160 T) pa_nil)) (pe_call (ok_21 T) (rm hr) rfl T.m_21 T.u_21.kp (b_21 T) .nil passN (pa_cons (pv 5) pa_nil))) (pe_lst (pa_cons (g_72 T) pa_nil))))))))),?_⟩
  walk_at "go0"
  refine ⟨cl,cs,c,rfl,bc.hc,bc.kc,bc.mc.len,bc.mc.kok.nd,fun H1 d s1 n1 h1=>?_⟩
  walk_at "go"
  have bc1:=bc.same s1
  have bl':bs.length=b.length:=(Paired.length bc.kb).symm
  have lb:=bc.mb.len
  refine R.kil (SqL.of bc1.hb) ?_
  refine R.lc_gen b.length (fun i=>((b[i]?).map fun g=> !QuireCopies.has c g.sig).getD false) (fun i x _=>(bs.map V.ref)[i]? =some x) (fun D i y H=>∃sg,y= .ref sg/\∃g,b[i]? =some g/\H sg=some (.tup (sgV g.sig))/\sg≠D)
   (fun D i y H H' f h=>?_) (small (by omega)) (by rw [←bl'];have:=R.itl_go (SqL.of (K:=K) bc1.hb);rw [List.length_map] at this;exact this) (by rw [←bl'];have:=R.itl_stop (SqL.of (K:=K) bc1.hb);rw [List.length_map] at this;exact this)
   (by rw [←bl'];have:=R.itl_yld (SqL.of (K:=K) bc1.hb);rw [List.length_map] at this;exact this) (fun i y H4 D Y Z hi sm hD hacc yr yes no=>?_) (fun D ys H3 hD hys sm hp=>?_)
  ·obtain ⟨x,e1,g,e2,e3,e4⟩:=h
   exact ⟨x,e1,g,e2,f _ _ e4 e3,e4⟩
  ·obtain ⟨acc,hacc⟩:=hacc
   obtain ⟨g,hg⟩:∃g,b[i]? =some g:=⟨b[i],List.getElem?_eq_getElem hi⟩
   obtain ⟨q,hqi,sg,lv,gp,⟨dx,b1⟩,b2,_⟩:=paired_get bc1.kb hg
   rw [List.getElem?_map,hqi] at yr
   injection yr with yr
   subst yr
   have b1':=sm _ _ b1
   have b2':=sm _ _ b2
   refine ⟨rfl,?_⟩
   walk_at "go"
   refine R.dnotin ?_
   walk_at "go"
   have hd4:H4 d=some (sgD c fun g=> .int (g.size:Int)):=sm _ _ h1
   refine ⟨d,_,rfl,DGet.t (k:=kyS g.sig) hd4 b2',R.bl ?_⟩
   rw [sgD_val,Option.isSome_map]
   show if (!QuireCopies.has c g.sig)=true then _ else _
   cases hh:QuireCopies.has c g.sig with
   |true=>
    refine iteF ?_
    exact no _ (Same.refl _) (by rw [hg];show (!QuireCopies.has c g.sig)=false;rw [hh];rfl)
   |false=>
    refine iteT ?_
    walk_at "go"
    exact yes _ _ (Same.refl _) (by rw [hg];show (!QuireCopies.has c g.sig)=true;rw [hh];rfl) ⟨sg,rfl,g,hg,b2',fun z=>by rw [z,hacc] at b2';cases b2'⟩
  ·obtain ⟨sgs,rfl,hx⟩:=paired_refs2 (F:=fun (i:Nat) (sg:Addr)=>∃g:Gath,b[i]? =some g/\H3 sg=some (.tup (sgV g.sig))/\sg≠D) hp
   have hx:=paired_filter (pg:=fun g=> !QuireCopies.has c g.sig) (fun i x e=>by rw [e];rfl) hx
   generalize hfl:b.filter (fun g=> !QuireCopies.has c g.sig)=fl at hx
   have fll:fl.length<=48:=by rw [←hfl];exact Nat.le_trans (List.length_filter_le _ _) lb
   have flok:∀g∈fl,g.sig.ok=true:=fun g hg=>(bc.mb.mok g (by rw [←hfl] at hg;exact (List.mem_filter.mp hg).1)).2
   have sl:sgs.length=fl.length:=(Paired.length hx).symm
   walk_at "go"
   refine R.kil (SqL.of hys) ?_
   refine R.lc_gen fl.length (fun _=>true) (fun i x _=>(sgs.map V.ref)[i]? =some x) (fun D i y H=>∃x,y= .ref x/\∃g,fl[i]? =some g/\H x=some (.lst (txV (Line.gone g.sig).text))/\x≠D)
    (fun D i y H H' f h=>?_) (small (by omega)) (by rw [←sl];have:=R.itl_go (SqL.of (K:=K) hys);rw [List.length_map] at this;exact this) (by rw [←sl];have:=R.itl_stop (SqL.of (K:=K) hys);rw [List.length_map] at this;exact this)
    (by rw [←sl];have:=R.itl_yld (SqL.of (K:=K) hys);rw [List.length_map] at this;exact this) (fun i y H4 D2 Y Z hi sm4 hD2 hacc yr yes no=>?_) (fun D2 ys H5 hD2 hys2 sm5 hp=>?_)
   ·obtain ⟨x,e1,g,e2,e3,e4⟩:=h
    exact ⟨x,e1,g,e2,f _ _ e4 e3,e4⟩
   ·obtain ⟨acc,hacc⟩:=hacc
    obtain ⟨g,hg⟩:∃g,fl[i]? =some g:=⟨fl[i],List.getElem?_eq_getElem hi⟩
    obtain ⟨sg,hsi,hst,_⟩:=paired_get hx hg
    rw [List.getElem?_map,hsi] at yr
    injection yr with yr
    subst yr
    have okg:=flok g (List.mem_of_getElem? hg)
    have l1:=text_len okg
    refine ⟨rfl,?_⟩
    refine R.yes ?_
    have e1:txV (Line.gone g.sig).text=([V.int 126]++txV g.sig.text)++ [V.int 10]:=by
     show V.int _::txV (g.sig.text++ [QuireCopies.LF])=_
     rw [txV_app]
     rfl
    refine R.tx (R.Tcat (R.Tx.tl (R.Tcat (xs:= [V.int 126]) (ys:=txV g.sig.text) (R.Tx.tl (R.Tone R.Econ)) (fun H6 s6=>R.Tx.tl ?_) ?_)) (fun H6 s6=>R.Tx.tl (R.Tone R.Econ)) ?_) (fun H6 p s6 n6 e6=>yes _ _ s6 rfl ⟨p,rfl,g,hg,by rw [e1];exact e6,(ne_of_none hacc n6).symm⟩)
    ·intro Qv qv
     walk_at "go"
     exact ⟨g.sig,⟨sg,rfl,R.sqT_of (s6 _ _ (sm4 _ _ hst)),okg⟩,fun r H' n e s=>qv H' r s n e⟩
    ·rw [txV_len];exact small (by simp;omega)
    ·rw [List.length_append,txV_len];exact small (by simp;omega)
   ·rw [List.filter_eq_self.mpr (fun _ _=>rfl)] at hp
    obtain ⟨xs,rfl,hx2⟩:=paired_refs2 (F:=fun (i:Nat) (x:Addr)=>∃g:Gath,fl[i]? =some g/\H5 x=some (.lst (txV (Line.gone g.sig).text))/\x≠D2) hp
    have hx2:=paired_range hx2
    have s05:Same H H5:=(s1.trans sm).trans sm5
    refine k H5 D2 xs s05 ((s1.trans sm).free hD2) hys2 ?_
    unfold lackL
    rw [hfl]
    exact paired_map (R.paired_imp (fun _ _ h=>h.1) hx2)
end
theorem gath_self:∀{m:List Gath} {g:Gath},(m.map Gath.sig).Nodup->g∈m->QuireCopies.gathOf m g.sig=some g
 | [],_,_,h=>nomatch h
 |x::m,g,hn,h=>by
  rw [List.map_cons,List.nodup_cons] at hn
  unfold QuireCopies.gathOf
  rw [List.find?_cons]
  rcases List.mem_cons.mp h with e|h
  ·subst e
   simp
  ·have ne:¬x.sig=g.sig:=fun z=>hn.1 (by rw [z];exact List.mem_map_of_mem h)
   have:(x.sig==g.sig)=false:=by
    cases e:(x.sig==g.sig) with
    |false=>rfl
    |true=>exact absurd (beq_iff_eq.mp e) ne
   rw [this]
   exact gath_self hn.2 h
theorem gath_sig {m:List Gath} {s:Sig} {h:Gath} (e:QuireCopies.gathOf m s=some h):h.sig=s/\h∈m:=by
 have h1:=List.find?_some e
 exact ⟨beq_iff_eq.mp h1,List.mem_of_find?_eq_some e⟩
theorem twins_of {b c:List Gath} {g h:Gath} (mb:MkOk b) (mc:MkOk c) (hw:QuireCopies.within b c=true) (hg:g∈b) (e:QuireCopies.gathOf c g.sig=some h):Twins g h:=by
 obtain ⟨e1,hm⟩:=gath_sig e
 have h1:oneIn b h=true:=List.all_eq_true.mp hw h hm
 unfold oneIn at h1
 rw [e1,gath_self mb.kok.nd hg] at h1
 exact ⟨(mb.mok g hg).1,(mc.mok h hm).1,beq_iff_eq.mp h1,e1.symm,(mc.mok h hm).2⟩
theorem zip_find {F:Gath->Addr->Prop} {s:Sig}:∀{c:List Gath} {cs:List Addr},Paired F c cs->(∃h q,((c.zip cs).find? fun x=>decide (x.1.sig=s))=some (h,q)/\QuireCopies.gathOf c s=some h/\F h q)∨(((c.zip cs).find? fun x=>decide (x.1.sig=s))=none/\QuireCopies.gathOf c s=none)
 |_,_,.nil=> .inr ⟨rfl,rfl⟩
 |_,_,.cons (a:=g) (b:=q) (l₁:=c) (l₂:=cs) h t=>by
  unfold QuireCopies.gathOf
  rw [List.zip_cons_cons,List.find?_cons,List.find?_cons]
  by_cases e:g.sig=s
  ·left
   refine ⟨g,q,?_,?_,h⟩
   ·simp [e]
   ·simp [e]
  ·have e2:(g.sig==s)=false:=by
    cases z:(g.sig==s) with
    |false=>rfl
    |true=>exact absurd (beq_iff_eq.mp z) e
   rw [e2]
   simp only [e,decide_false]
   exact zip_find t
theorem merge_sigA {α:Type} {m:List α} {sf:α->Sig} {f:α->V} (hn:(m.map sf).Nodup):mergeT [] (m.map fun x=>(kyS (sf x),f x))=m.map fun x=>(kyS (sf x),f x):=by
 have:=mergeT_nodup (m.map fun x=>(kyS (sf x),f x)) [] (by
  rw [List.nil_append,List.map_map]
  have e2:(((fun x:List Key×V=>x.1)∘fun x:α=>(kyS (sf x),f x)):α->List Key)=kyS∘sf:=rfl
  rw [e2,←List.map_map]
  exact nodup_inj (fun a b h=>kyS_inj h) hn)
 simpa using this
theorem prs_ofA {α:Type} {K:W.Frag} {H:Hp} {D:Addr} {sf:α->Sig} {f:α->V}:∀{m:List α} {xs:List Addr},Paired (fun g x=>PrS H D x (sf g) (f g)) m xs->Paired (fun p kv=>PrT K H p kv) xs (m.map fun g=>(kyS (sf g),f g))
 |_,_,.nil=> .nil
 |_,_,.cons ⟨sg,h1,h2,_⟩ t=> .cons ⟨sg,R.sqT_of h1,h2⟩ (prs_ofA t)
def chg (c:List Gath) (g:Gath):List Line:=match QuireCopies.gathOf c g.sig with
 |some h=>QuireCopies.between g h
 |none=> []
theorem between_len {g h:Gath} (n:g.size<=20):(QuireCopies.between g h).length<=41:=by
 have:QuireCopies.between g h=linesTo g h g.size:=rfl
 rw [this]
 have:=linesTo_len g h g.size
 omega
theorem chg_len {c:List Gath} {g:Gath} (wf:WF g):(chg c g).length<=41:=by
 unfold chg
 split
 ·exact between_len (size_le wf.sz).2
 ·exact Nat.zero_le _
theorem chgs_len {c:List Gath}:∀{l:List Gath},(∀g∈l,WF g)->(l.flatMap (chg c)).length<=41*l.length
 | [],_=>Nat.le_refl _
 |g::l,h=>by
  rw [List.flatMap_cons,List.length_append,List.length_cons]
  have:=chg_len (c:=c) (h g (List.mem_cons_self ..))
  have:=chgs_len (c:=c) (l:=l) (fun x hx=>h x (List.mem_cons_of_mem _ hx))
  omega
section
variable {P:Program} {w:World} {K:W.Frag} {mg:Str->Option Value} {base:Heap} {a:Adr}
def spCh (a:Adr):Sp:=fun vs H Q E=>∃bl cl b c bs cs,vs= [.ref bl,.ref cl]/\BC a H bl cl b c bs cs/\QuireCopies.within b c=true/\outL H Q (b.flatMap (chg c))
theorem ok_36 (T:Txt K mg a):FnOk P w K mg base (CXd P w) 6 a.f_36 a.d_36 ["book","copy"] (spCh a):=by
 refine okN T.u_36 sc_36 (fun vs H Q E h=>?_) (fun cdv A outer s H vs Q E hr h=>?_)
 ·obtain ⟨_,_,_,_,_,_,rfl,_⟩:=h;rfl
 ·obtain ⟨bl,cl,b,c,bs,cs,rfl,bc,hw,k⟩:=h
  refine ⟨_,(pss_cons (ps_set (i:=2) sc_36.nd rfl (Or.inl rfl) (pe_callTy (call_dictT hr.units rfl) (by rfl) T.b_dict (by rfl) (pa_cons (pe_lc rfl sc_36.nd (pi_list (pv 1)) (blkOk_by (own:= [("quire",3)]) rfl) (fun _ _ _ _ _=>(pg_name (i:=3) sc_36.nd rfl (Or.inl rfl))) (fun _ _ _ _ _=>pts_nil) (fun _ _ _ _ _=>(pe_tup (pa_cons (pe_fldK (K:=K) rfl (pv 3) rfl) (pa_cons (pv 3) pa_nil))))) pa_nil))) (pss_cons (ps_set (i:=4) sc_36.nd rfl (Or.inl rfl) (pe_lst pa_nil)) (pss_cons (ps_for PassesOwn.never rfl (pi_list (pv 0)) (pg_name (i:=3) sc_36.nd rfl (Or.inl rfl)) (pss_one (ps_if (pt_cmp (pc_din (hu_of hr) (pe_fld (pv 3) rfl) (pv 2))) (pss_one (ps_expr (pe_bm PySem.F.plainAttrs_list PySem.F.slot_list_extend PySem.F.type_list_extend mt_extend (pv 4) (pa_cons (pe_call (ok_53 T) (rm hr) rfl T.m_53 T.u_53.kp (b_53 T) .nil passN (pa_cons (pv 3) (pa_cons (pe_dget (hu_of hr) (pv 2) (pe_fld (pv 3) rfl) (fun _ _=>rfl)) pa_nil))) pa_nil)))) pss_nil))) (pss_one (ps_ret (pv 4)))))),?_⟩
  walk_at "go0"
  have cl':cs.length=c.length:=(Paired.length bc.kc).symm
  have bl':bs.length=b.length:=(Paired.length bc.kb).symm
  have lc:=bc.mc.len
  have lb:=bc.mb.len
  have zl:(c.zip cs).length=c.length:=by rw [List.length_zip];omega
  refine R.kil (SqL.of bc.hc) ?_
  refine R.lc_gen (c.zip cs).length (fun _=>true) (fun i x _=>(cs.map V.ref)[i]? =some x) (fun D i y H=>∃x,y= .ref x/\∃gq,(c.zip cs)[i]? =some gq/\PrS H D x gq.1.sig (.ref gq.2))
   (fun D i y H H' f h=>?_) (small (by omega)) (by rw [zl,←cl'];have:=R.itl_go (SqL.of (K:=K) bc.hc);rw [List.length_map] at this;exact this) (by rw [zl,←cl'];have:=R.itl_stop (SqL.of (K:=K) bc.hc);rw [List.length_map] at this;exact this)
   (by rw [zl,←cl'];have:=R.itl_yld (SqL.of (K:=K) bc.hc);rw [List.length_map] at this;exact this) (fun i y H4 D Y Z hi sm hD hacc yr yes no=>?_) (fun D ys H3 hD hys sm hp=>?_)
  ·obtain ⟨x,e1,g,e2,e3⟩:=h
   exact ⟨x,e1,g,e2,e3.frD f⟩
  ·obtain ⟨acc,hacc⟩:=hacc
   rw [zl] at hi
   obtain ⟨g,hg⟩:∃g,c[i]? =some g:=⟨c[i],List.getElem?_eq_getElem hi⟩
   obtain ⟨q,hqi,sg,lv,gp,⟨dx,b1⟩,b2,_⟩:=paired_get bc.kc hg
   rw [List.getElem?_map,hqi] at yr
   injection yr with yr
   subst yr
   have b1':=sm _ _ b1
   have b2':=sm _ _ b2
   have ez:(c.zip cs)[i]? =some (g,q):=by rw [List.getElem?_zip_eq_some];exact ⟨hg,hqi⟩
   refine ⟨rfl,?_⟩
   refine R.yes ?_
   walk_at "go"
   refine ⟨by show 2<=sizeLine;rw [sizeLine_eq];omega,fun x hx=>?_⟩
   have sx:=(R.new_of (o:= .tup [.ref sg,.ref q]) hx).2.2
   exact yes _ _ sx rfl ⟨x,rfl,(g,q),ez,sg,upd_same,sx _ _ b2',(ne_of_none hacc hx).symm,fun z=>by rw [z,hacc] at b2';cases b2'⟩
  ·rw [List.filter_eq_self.mpr (fun _ _=>rfl)] at hp
   obtain ⟨xs,rfl,hx⟩:=paired_refs2 (F:=fun (i:Nat) (x:Addr)=>∃gq:Gath×Addr,(c.zip cs)[i]? =some gq/\PrS H3 D x gq.1.sig (.ref gq.2)) hp
   have hx:=paired_range hx
   walk_at "go"
   have hkv:=prs_ofA (K:=K) (sf:=fun gq:Gath×Addr=>gq.1.sig) (f:=fun gq=>V.ref gq.2) hx
   refine ⟨D,xs,_,rfl,SqL.of hys,hkv,fun d hd=>?_⟩
   have nd:((c.zip cs).map fun gq=>gq.1.sig).Nodup:=by
    have e:((c.zip cs).map fun gq=>gq.1.sig)=c.map Gath.sig:=by
     have e2:(fun gq:Gath×Addr=>gq.1.sig)=Gath.sig∘Prod.fst:=rfl
     rw [e2,←List.map_map,List.map_fst_zip (by omega)]
    rw [e]
    exact bc.mc.kok.nd
   rw [merge_sigA nd]
   have nw:=R.new_of (o:= .dT ((c.zip cs).map fun gq=>(kyS gq.1.sig,V.ref gq.2))) hd
   generalize upd H3 d (.dT ((c.zip cs).map fun gq=>(kyS gq.1.sig,V.ref gq.2)))=H5 at nw⊢
   obtain ⟨_,hd5,s5⟩:=nw
   have s05:Same H H5:=sm.trans s5
   clear hkv hx hys
   walk_at "go"
   refine ⟨Nat.zero_le _,fun l hl=>?_⟩
   have nw:=R.new_of (o:= .lst []) hl
   generalize upd H5 l (.lst [])=H6 at nw⊢
   obtain ⟨_,hl6,s6⟩:=nw
   have s06:=s05.trans s6
   have nl:H l=none:=s05.free hl
   have nld:l≠d:=(ne_of_none hd5 hl).symm
   have hd6:=s6 _ _ hd5
   walk_at "go"
   walk_at "for"
   refine R.kil (SqL.of (s06 _ _ bc.hb)) ?_
   refine for_list (xs:=bs.map V.ref) (fun i σ H'=>∃(v3:Option V) (ps:List Addr),σ= [some (.ref bl),some (.ref cl),some (.ref d),v3,some (.ref l)]/\Same H H'/\H' d=some (.dT ((c.zip cs).map fun gq=>(kyS gq.1.sig,V.ref gq.2)))/\H' l=some (.lst (ps.map V.ref))/\LinesAt H' ((b.take i).flatMap (chg c)) ps) ⟨none,[],rfl,s06,hd6,hl6,.nil⟩ ?_ ?_ ?_
   ·rintro i σ H' _ ⟨v3,ps,rfl,s7,_⟩
    exact SqL.of (s7 _ _ bc.hb)
   ·rintro i x σ H' hx ⟨v3,ps,rfl,s7,hd7,hl7,ln7⟩
    rw [List.getElem?_map] at hx
    obtain ⟨q,hq,rfl⟩:=Option.map_eq_some_iff.mp hx
    have bc7:=bc.same s7
    obtain ⟨g,hg,hQ⟩:=paired_get2 bc7.kb hq
    obtain ⟨sg,lv,gp,⟨dx,b1⟩,b2,_⟩:=id hQ
    have gm:=List.mem_of_getElem? hg
    have et:(b.take (i+1)).flatMap (chg c)=(b.take i).flatMap (chg c)++chg c g:=by
     rw [List.take_succ,hg,List.flatMap_append]
     simp
    have l1:((b.take i).flatMap (chg c)).length<=41*48:=by
     have h1:=chgs_len (c:=c) (l:=b.take i) (fun g hg=>(bc.mb.mok g (List.mem_of_mem_take hg)).1)
     have h2:=List.length_take_le' i b
     omega
    have l2:=chg_len (c:=c) (bc.mb.mok g gm).1
    walk_at "go"
    refine R.din ?_
    walk_at "go"
    refine ⟨d,_,rfl,DGet.t (k:=kyS g.sig) hd7 b2,R.bl ?_⟩
    rw [valV_sig (fun gq:Gath×Addr=>gq.1.sig) (fun gq=>V.ref gq.2),Option.isSome_map]
    rcases zip_find (s:=g.sig) bc7.kc with ⟨h,q2,z1,z2,hQ2⟩|⟨z1,z2⟩
    ·rw [z1]
     refine iteT ?_
     walk_at "go"
     refine ⟨.inl ⟨rfl,_,SqL.of hl7⟩,?_⟩
     walk_at "go"
     refine R.dget ?_
     walk_at "go"
     refine ⟨d,.ref q2,rfl,?_,?_⟩
     ·have:=DGet.t (k:=kyS g.sig) hd7 b2
      rw [valV_sig (fun gq:Gath×Addr=>gq.1.sig) (fun gq=>V.ref gq.2),z1] at this
      exact this
     walk_at "go"
     have ec:chg c g=QuireCopies.between g h:=by unfold chg;rw [z2]
     refine ⟨q,q2,g,h,rfl,hQ,hQ2,twins_of bc.mb bc.mc hw gm z2,fun H8 D8 ps8 s8 n8 h8 ln8=>?_⟩
     walk_at "go"
     rw [←ec] at ln8
     refine ext_lines (s8 _ _ hl7) (ln7.same s8) h8 ln8 (by omega) (fun H9 f9 hl9 ln9=>?_)
     exact ⟨_,_,rfl,fun b o e=>f9 b o (ne_of_none e nl) (s8 _ _ (s7 _ _ e)),f9 _ _ (Ne.symm nld) (s8 _ _ hd7),hl9,by rw [et];exact ln9⟩
    ·rw [z1]
     refine iteF ?_
     walk_at "go"
     have ec:chg c g= []:=by unfold chg;rw [z2]
     exact ⟨_,ps,rfl,s7,hd7,hl7,by rw [et,ec,List.append_nil];exact ln7⟩
   ·rintro σ H' ⟨v3,ps,rfl,s7,hd7,hl7,ln7⟩
    rw [List.length_map,bl',List.take_length] at ln7
    walk_at "go"
    exact k H' l ps s7 nl hl7 ln7
end
end Q
namespace XL
open PySem PySem.Spec PyProof.Rows L2
section
variable {prog:Program} {w:World} {A:Around} {R:Result->Shared->Prop} {It:Addr} {fp wr:List Addr} {n:Nat} {P:Nat->Value->Prop} {St:Nat->Heap->Prop}
theorem mxName:(toString "max"++toString ".loop":String)="max.loop":=by decide
theorem mx_more (W:Walks prog w A.in1 It fp wr n P St) (bt:Nat->Nat->Bool) (hq:CmpOf prog w A.in1 .Gt P bt) (be:Addr) (nf:be∉fp) (dv:Value):
  ∀(m i:Nat) (s:Shared) (x:Value) (cn:Nat),n=i+1+m->St (i+1) s.heap->P (argBest bt i) x->
  s.heap.get? be=some {cls:= .type "list",dict:=none,data:= .seq #[x,x] cn,slots:= #[]}->
  (∀v hp tk,P (argBest bt (n - 1)) v->(∀b o,b∉wr->b≠be->s.heap.get? b=some o->hp.get? b=some o)->R (.ok (.ret v)) {s with heap:=hp,toks:=tk})->
  codeAny (model prog w) A (.builtin "max.loop" ⟨[.ref It,.none,.ref be],[("default",dv)]⟩) R s
 |0,i,s,x,cn,hn,hst,hx,hb,hR=>by
  have nw:be∉wr:=fun q=>nf (W.sub _ q)
  refine codeAny_builtin F.entry_max_loop (b:=Builtin.«max.loop») ?_
  rw [Around.under_plainId F.plain_max_loop _]
  show wpAny _ A.in1 (seqItems? (.ref be) >>= _) _ _ s
  refine wpAny_bind (wpAny_seqItems hb rfl ?_)
  show wpAny _ A.in1 (tryCatch (pyNext (.ref It)) _ >>= _) _ _ s
  have hst':St n s.heap:=by rw [hn];exact hst
  refine wpAny_bind (wpAny_tryCatch (W.done s _ _ hst' fun hp tk hk=>?_))
  have hb2:=hk be _ nw hb
  show wpAny _ A.in1 (updateSeq be (fun _=> #[]) >>= _) _ _ _
  refine wpAny_bind (wpAny_updateSeq hb2 rfl (wpAny_bind (wpAny_letGo (wpAny_pure ?_))))
  refine hR x _ tk (by rw [hn];exact hx) fun b o q1 q2 q3=>?_
  exact (Heap.get?_update_other _ _ (Ne.symm q2)).trans (hk b o q1 q3)
 |m+1,i,s,x,cn,hn,hst,hx,hb,hR=>by
  have nw:be∉wr:=fun q=>nf (W.sub _ q)
  refine codeAny_builtin F.entry_max_loop (b:=Builtin.«max.loop») ?_
  rw [Around.under_plainId F.plain_max_loop _]
  show wpAny _ A.in1 (seqItems? (.ref be) >>= _) _ _ s
  refine wpAny_bind (wpAny_seqItems hb rfl ?_)
  show wpAny _ A.in1 (tryCatch (pyNext (.ref It)) _ >>= _) _ _ s
  refine wpAny_bind (wpAny_tryCatch (W.item (i+1) s _ _ (by omega) hst fun y hp tk hy hst2 hk=>?_))
  have hb2:=hk be _ nw hb
  show wpAny _ A.in1 (tryCatch (holding [y,y] (richCompare .Gt y x >>= _)) _ >>= _) _ _ _
  refine wpAny_bind (wpAny_tryCatch (wpAny_holding (wpAny_bind (hq (i+1) (argBest bt i) y x _ _ _ hy hx ?_))))
  refine wpAny_bind (wpAny_holding (wpAny_truthy_bool ?_))
  refine wpAny_bind (wpAny_letGo (wpAny_pure ?_))
  cases e:bt (i+1) (argBest bt i) with
  |true=>
   simp only [if_true]
   refine wpAny_bind (wpAny_updateSeq hb2 rfl (wpAny_bind (wpAny_letGo ?_)))
   rw [mxName]
   refine wpAny_pure ⟨plainId_quiet F.plain_max_loop _,mx_more W bt hq be nf dv m (i+1) _ y _ (by omega) (W.frame _ _ _ hst2 fun b q o z=>?_) (by simp only [argBest,e,if_true];exact hy) (Heap.get?_update_self _ hb2 rfl) fun v h2 t2 q1 q2=>?_⟩
   ·exact (Heap.get?_update_other _ _ (fun z:be=b=>nf (by rw [z];exact q))).trans z
   ·exact hR v h2 t2 q1 fun b o z1 z2 z3=>q2 b o z1 z2 ((Heap.get?_update_other _ _ (Ne.symm z2)).trans (hk b o z1 z3))
  |false=>
   simp only [Bool.false_eq_true,if_false]
   refine wpAny_bind (wpAny_letGo ?_)
   rw [mxName]
   refine wpAny_pure ⟨plainId_quiet F.plain_max_loop _,mx_more W bt hq be nf dv m (i+1) _ x cn (by omega) hst2 (by simp only [argBest,e,Bool.false_eq_true,if_false];exact hx) hb2 fun v h2 t2 q1 q2=>?_⟩
   exact hR v h2 t2 q1 fun b o z1 z2 z3=>q2 b o z1 z2 (hk b o z1 z3)
theorem mx_first (W:Walks prog w A.in1 It fp wr n P St) (bt:Nat->Nat->Bool) (hq:CmpOf prog w A.in1 .Gt P bt) (be:Addr) (nf:be∉fp) (dv:Value) (s:Shared) (cn:Nat) (hst:St 0 s.heap)
  (hb:s.heap.get? be=some {cls:= .type "list",dict:=none,data:= .seq #[] cn,slots:= #[]})
  (h0:n=0->∀hp tk,(∀b o,b∉wr->b≠be->s.heap.get? b=some o->hp.get? b=some o)->R (.ok (.ret dv)) {s with heap:=hp,toks:=tk})
  (hR:0 < n->∀v hp tk,P (argBest bt (n - 1)) v->(∀b o,b∉wr->b≠be->s.heap.get? b=some o->hp.get? b=some o)->R (.ok (.ret v)) {s with heap:=hp,toks:=tk}):
  codeAny (model prog w) A (.builtin "max.loop" ⟨[.ref It,.none,.ref be],[("default",dv)]⟩) R s:=by
 have nw:be∉wr:=fun q=>nf (W.sub _ q)
 refine codeAny_builtin F.entry_max_loop (b:=Builtin.«max.loop») ?_
 rw [Around.under_plainId F.plain_max_loop _]
 show wpAny _ A.in1 (seqItems? (.ref be) >>= _) _ _ s
 refine wpAny_bind (wpAny_seqItems hb rfl ?_)
 show wpAny _ A.in1 (tryCatch (pyNext (.ref It)) _ >>= _) _ _ s
 by_cases e:n=0
 ·have hst':St n s.heap:=by rw [e];exact hst
  refine wpAny_bind (wpAny_tryCatch (W.done s _ _ hst' fun hp tk hk=>?_))
  show wpAny _ A.in1 (rule _ >>= _) _ _ _
  exact wpAny_bind (wpAny_rule (wpAny_pure (h0 e hp tk fun b o q1 q2 q3=>hk b o q1 q3)))
 ·have hpos:0 < n:=Nat.pos_of_ne_zero e
  refine wpAny_bind (wpAny_tryCatch (W.item 0 s _ _ hpos hst fun y hp tk hy hst2 hk=>?_))
  have hb2:=hk be _ nw hb
  show wpAny _ A.in1 (updateSeq be (fun _=> #[y,y]) >>= _) _ _ _
  refine wpAny_bind (wpAny_updateSeq hb2 rfl ?_)
  rw [mxName]
  refine wpAny_pure ⟨plainId_quiet F.plain_max_loop _,mx_more W bt hq be nf dv (n - 1) 0 _ y _ (by omega) (W.frame _ _ _ hst2 fun b q o z=>?_) hy (Heap.get?_update_self _ hb2 rfl) fun v h2 t2 q1 q2=>?_⟩
  ·exact (Heap.get?_update_other _ _ (fun z:be=b=>nf (by rw [z];exact q))).trans z
  ·exact hR hpos v h2 t2 q1 fun b o z1 z2 z3=>q2 b o z1 z2 ((Heap.get?_update_other _ _ (Ne.symm z2)).trans (hk b o z1 z3))
end
section
variable {prog:Program} {w:World} {A:Around} {E:Value->Shared->Prop} {s:Shared}
theorem mx_args (x dv:Value):argsOk "max" ⟨[x],[("default",dv)]⟩:=by unfold argsOk;kernel_rfl
theorem call_kw_tree {id : String} {bi : Builtin} {ar : Args} {Q : Value -> Shared -> Prop} (hk : builtinKind id = none) (hp : plainId id = true) (hb : entryFor table id = some bi) (ha : argsOk id ar)
  (hc : wpAny (model prog w) A.in1 (bi ar) (fun fin t => match fin with
   | .done f => (match (Except.ok f : Result) with
    | .ok (.ret v) => Q v t
    | .ok _ => False
    | .error e => E e t)
   | .again c => c.quiet = true /\ codeAny (model prog w) A c (fun r t => match r with
    | .ok (.ret v) => Q v t
    | .ok _ => False
    | .error e => E e t) t) E s) : wpAny (model prog w) A (call (.builtin id) ar.pos ar.kw) Q E s := by
 refine wpAny_call (codeAny_call_builtin hp hb ?_)
 simp only [checkBuiltinCall, hk]
 cases hs : Manifest.signature? id with
 | none => exact wpAny_pure hc
 | some sg =>
  simp only [argsOk, hs] at ha
  have h2 : Bind.checkArgs id sg ar = pure () := ha
  show wpAny _ A.in1 (Bind.checkArgs id sg ar) _ _ s
  rw [h2]
  exact wpAny_pure hc
theorem max_dflt {l:Addr} {its:List Value} {ns:List Int} {dv:Value} {Q:Value->Shared->Prop} (hh:A.handled=none) (hl:s.heap.IsList l its.toArray) (hi:IntsAre its ns)
  (h0:ns= []->∀hp tk,(∀b o,s.heap.get? b=some o->hp.get? b=some o)->Q dv {s with heap:=hp,toks:=tk})
  (h:∀hp tk M t',(∀b o,s.heap.get? b=some o->hp.get? b=some o)->M∈ns->(∀a,a∈ns->a<=M)->Q (.int M t') {s with heap:=hp,toks:=tk}):
  wpAny (model prog w) A (call (.builtin "max") [.ref l] [("default",dv)]) Q E s:=by
 obtain ⟨xs,e⟩:=hi.allInts.items
 have hn:numsOf (intItems xs).toList=ns:=by rw [←e];exact hi.numsOf
 rw [nums_intItems] at hn
 subst hn
 rw [e] at hl
 refine call_kw_tree (ar:=⟨[.ref l],[("default",dv)]⟩) F.kind_max F.plain_max F.entry_max (mx_args _ _) ?_
 show wpAny _ A.in1 (Builtin.Builtins.bindParams "max" ["key","default"] 0 ⟨[],[("default",dv)]⟩ >>= _) _ _ s
 refine wpAny_bind (wpAny_of_eq (show Builtin.Builtins.bindParams "max" ["key","default"] 0 ⟨[],[("default",dv)]⟩=pure [none,some dv] from rfl) ?_)
 refine wpAny_bind (wpAny_pure ?_)
 refine wpAny_bind (iter_intList hl fun s2 e2 st hfp hlI=>?_)
 subst e2
 refine wpAny_bind (wpAny_newObj_type ?_)
 rw [mxName]
 have W:=Walks.list (prog:=prog) (w:=w) (A:=A.in1) hh s.heap.objs.size l hlI (intItems xs)
 refine wpAny_pure ⟨plainId_quiet F.plain_max_loop _,mx_first (A:=A) W (fun i j=>decide (numAt xs i > numAt xs j)) (CmpOf.ints_gt (numAt xs) (fun _ _=>intItems_at)) _ (fun hm=>Nat.lt_irrefl _ (hfp _ hm)) dv _ _ (W.frame _ _ _ st fun b _ o q=>Heap.get?_push_of_some _ q) (Heap.get?_push_size _ rfl) (fun z hp tk hk=>?_) (fun z v hp tk hv hk=>?_)⟩
 ·refine h0 ?_ hp tk (old_kept fun b o q1 q2=>hk b o q1 (Nat.ne_of_lt (Heap.lt_size q2)) (Heap.get?_push_of_some _ q2))
  have:xs.size=0:=by simpa [intItems] using z
  have:xs.toList= []:=List.length_eq_zero_iff.mp (by simpa using this)
  rw [this]
  rfl
 ·have hsz:0 < xs.size:=by simpa [intItems] using z
  have hv':(intItems xs)[argBest (fun i j=>decide (numAt xs i > numAt xs j)) (xs.size - 1)]? =some v:=by simpa [intItems] using hv
  obtain ⟨t,rfl⟩:=intItems_at hv'
  obtain ⟨h1,h2⟩:=argBest_gt (numAt xs) (xs.size - 1)
  refine h hp tk _ t (old_kept fun b o q1 q2=>hk b o q1 (Nat.ne_of_lt (Heap.lt_size q2)) (Heap.get?_push_of_some _ q2)) ?_ fun a ha=>?_
  ·rw [numAt_eq];exact PySem.getD_mem (by rw [List.length_map,Array.length_toList];omega)
  ·obtain ⟨j,hj,rfl⟩:=mem_getD ha
   rw [List.length_map,Array.length_toList] at hj
   rw [←numAt_eq];exact h2 j (by omega)
end
end XL
namespace XL
open PySem PySem.Spec PyProof.Rows L2
theorem callWith_bk {M:Model} {A:Around} {E:Value->Shared->Prop} {s:Shared} {pos:Pos} {id:String} {args:List (Bool×Sem Value)} {kws:List (Option Str×Sem Value)} {Q:Value->Shared->Prop} (pl:(args.any (·.1)||kws.any (·.1.isNone))=false)
  (h:wpAny M A (evalArgs (.builtin id) true args kws) (fun a t=>wpAny M A (call (.builtin id) a.pos a.kw) Q E t) E s):wpAny M A (callWith pos (.builtin id) [] args kws) Q E s:=by
 unfold callWith
 refine wpAny_bind (wpAny_holding (wpAny_mono h (fun a t q=>wpAny_bind (wpAny_standAt ?_)) fun _ _ x=>x))
 simp only [pl]
 refine wpAny_bind (wpAny_pure ?_)
 exact wpAny_bind (wpAny_mono q (fun r t2 z=>wpAny_bind (wpAny_holding (wpAny_point (wpAny_pure z)))) fun _ _ x=>x)
section
variable {X:Cx} {x:Str} {p pos:Pos} {e:Expr} {kws:List Keyword} {t:TA}
def tMaxD (K:W.Frag) (t:TA):TE:=fun σ H Q=>t σ H fun vs H1=>∃(a:Addr) (ns:List Int),vs= [V.ref a]/\SqL K H1 a (ns.map V.int)/\(ns= []->Q (.int 0) H1)/\∀m,m∈ns->(∀y,y∈ns->y<=m)->Q (.int m) H1
theorem pe_maxD (hg:Gl X x) (hm:X.mg x=none) (hv:bootBuiltins x=some (.builtin "max")) (ha:PA X [e] t) (hkw:PK X kws (tCons (tC (.int 0)) tNil)) (hc:X.calm=true:=by rfl)
  (hall:(backToKw pos (keywordEach kws X.env)).all (·.1.isSome)=true:=by rfl) (hks:(backToKw pos (keywordEach kws X.env)).filterMap (·.1)= [("default":Str)]:=by rfl)
  (hn:x≠ "__name__":=by decide) (hdb:(x==("__debug__":Str))=false:=by decide) (he:starEach [e] X.env=(false,eval e X.env)::starEach [] X.env:=by rfl)
  (hpl:((backTo pos (starEach [e] X.env)).any (·.1)||(backToKw pos (keywordEach kws X.env)).any (·.1.isNone))=false:=by rfl):
  PE X (.Call (.Name x p) [e] kws pos) (tMaxD X.K t):=by
 intro pins s σ H Q I h
 refine wpAny_Call_Name_kw (ld_blt I hg hm hv ?_ hn hdb)
 refine callWith_bk hpl (evalArgs_kw2 hall ?_ he)
 refine thn (ha pos pins s σ H _ I h) fun us s1 z=>?_
 obtain ⟨vs,H1,I1,r1,a,ns,rfl,hs,q0,q1⟩:=z
 have hk:tCons (tC (.int 0)) tNil σ H1 (fun zs H2=>zs= [V.int 0]/\H2=H1):=⟨rfl,rfl⟩
 refine thn (hkw pos pins s1 σ H1 _ I1 hk) fun ws s2 z=>?_
 obtain ⟨zs,H2,I2,rz,rfl,rfl⟩:=z
 rw [hks]
 obtain ⟨dv,rfl,rd⟩:=vals1 rz
 obtain ⟨u,rfl,ru⟩:=vals1 r1
 cases ru
 obtain ⟨its,rv,hl,_⟩:=I2.list hs
 show wpAny _ _ (call (.builtin "max") [.ref a] [("default",dv)]) _ _ _
 refine max_dflt (I2.ok.hd hc) hl.isList rv.ints (fun z hp tk hk=>⟨.int 0,H2,I2.kept hk,rd,q0 z⟩) fun hp tk m t' hk h1 h2=>⟨.int m,H2,I2.kept hk,⟨_,rfl⟩,q1 m h1 h2⟩
end
end XL
namespace QM
open QuireCopies (rises most movedFrom movedOf)
def mx (l:List Nat):Nat:=l.foldl max 0
theorem foldl_max:∀(l:List Nat) (a k:Nat),k<=l.foldl max a↔k<=a∨∃y∈l,k<=y
 | [],a,k=>by simp
 |x::l,a,k=>by
  rw [List.foldl_cons,foldl_max l (max a x) k]
  constructor
  ·rintro (h|⟨y,hy,h⟩)
   ·rcases Nat.le_total a x with q|q
    ·rw [Nat.max_eq_right q] at h
     exact .inr ⟨x,by simp,h⟩
    ·rw [Nat.max_eq_left q] at h
     exact .inl h
   ·exact .inr ⟨y,by simp [hy],h⟩
  ·rintro (h|⟨y,hy,h⟩)
   ·exact .inl (Nat.le_trans h (Nat.le_max_left _ _))
   ·rcases List.mem_cons.mp hy with e|hy
    ·subst e
     exact .inl (Nat.le_trans h (Nat.le_max_right _ _))
    ·exact .inr ⟨y,hy,h⟩
theorem mx_is {l:List Nat} {m:Nat} (h1:m∈l) (h2:∀y∈l,y<=m):mx l=m:=by
 refine Nat.le_antisymm ?_ ((foldl_max l 0 m).mpr (.inr ⟨m,h1,Nat.le_refl _⟩))
 rcases (foldl_max l 0 (mx l)).mp (Nat.le_refl _) with h|⟨y,hy,h⟩
 ·omega
 ·exact Nat.le_trans h (h2 y hy)
theorem foldl_snd:∀(l:List (Nat×Nat)) (a:Nat),l.foldl (fun n y=>max n y.2) a=(l.map (·.2)).foldl max a
 | [],_=>rfl
 |y::l,a=>by rw [List.foldl_cons,List.map_cons,List.foldl_cons,foldl_snd l]
theorem most_eq (v:Nat) (l:List (Nat×Nat)):most v l=mx ((l.filter fun y=>decide (v<=y.1)).map (·.2)):=foldl_snd _ _
theorem le_most (v k:Nat) (l:List (Nat×Nat)):k<=most v l↔k=0∨∃y∈l,v<=y.1/\k<=y.2:=by
 rw [most_eq]
 unfold mx
 rw [foldl_max]
 constructor
 ·rintro (h|⟨y,hy,h⟩)
  ·exact .inl (by omega)
  ·obtain ⟨z,hz,rfl⟩:=List.mem_map.mp hy
   obtain ⟨h1,h2⟩:=List.mem_filter.mp hz
   exact .inr ⟨z,h1,of_decide_eq_true h2,h⟩
 ·rintro (h|⟨y,hy,h1,h2⟩)
  ·exact .inl (by omega)
  ·exact .inr ⟨y.2,List.mem_map.mpr ⟨y,List.mem_filter.mpr ⟨hy,decide_eq_true h1⟩,rfl⟩,h2⟩
theorem rises_cons (x:Nat) (r:List Nat):rises (x::r)=(1+most (x+1) (r.zip (rises r)))::rises r:=rfl
theorem rises_len:∀p:List Nat,(rises p).length=p.length
 | []=>rfl
 |x::r=>by rw [rises_cons,List.length_cons,List.length_cons,rises_len r]
def zr (p:List Nat):List (Nat×Nat):=p.zip (rises p)
theorem zr_cons (x:Nat) (r:List Nat):zr (x::r)=(x,1+most (x+1) (zr r))::zr r:=rfl
theorem zr_len (p:List Nat):(zr p).length=p.length:=by
 unfold zr
 rw [List.length_zip,rises_len,Nat.min_self]
theorem rises_drop:∀(p:List Nat) (k:Nat),(rises p).drop k=rises (p.drop k)
 | [],k=>by rw [List.drop_nil];exact List.drop_nil
 |x::r,0=>rfl
 |x::r,k+1=>by
  rw [rises_cons,List.drop_succ_cons,List.drop_succ_cons]
  exact rises_drop r k
def canK (l:List (Nat×Nat)) (v k:Nat):Bool:=decide (k<=most v l)
theorem canK_any (l:List (Nat×Nat)) (v k:Nat):canK l v k=(decide (k=0)||l.any fun y=>decide (v<=y.1)&&decide (k<=y.2)):=by
 unfold canK
 by_cases h:k<=most v l
 ·rw [decide_eq_true h]
  rcases (le_most v k l).mp h with e|⟨y,hy,h1,h2⟩
  ·rw [decide_eq_true e];rfl
  ·have:(l.any fun y=>decide (v<=y.1)&&decide (k<=y.2))=true:=List.any_eq_true.mpr ⟨y,hy,by rw [decide_eq_true h1,decide_eq_true h2];rfl⟩
   rw [this,Bool.or_true]
 ·rw [decide_eq_false h]
  symm
  rw [Bool.or_eq_false_iff]
  refine ⟨decide_eq_false fun e=>h ((le_most v k l).mpr (.inl e)),?_⟩
  rw [List.any_eq_false]
  intro y hy q
  rw [Bool.and_eq_true,decide_eq_true_iff,decide_eq_true_iff] at q
  exact h ((le_most v k l).mpr (.inr ⟨y,hy,q.1,q.2⟩))
def mvGo:Nat->Nat->Nat->List Nat->List Nat
 |_,_,_,[]=> []
 |i,v,k,x::r=>if canK (zr r) v k=true then i::mvGo (i+1) v k r else mvGo (i+1) (x+1) (k - 1) r
theorem most_cons (v:Nat) (x:Nat×Nat) (r:List (Nat×Nat)):most v (x::r)=if v<=x.1 then max x.2 (most v r) else most v r:=by
 refine Nat.le_antisymm ?_ ?_
 ·rcases (le_most v _ (x::r)).mp (Nat.le_refl _) with h|⟨y,hy,h1,h2⟩
  ·omega
  ·rcases List.mem_cons.mp hy with e|hy
   ·subst e
    rw [if_pos h1]
    exact Nat.le_trans h2 (Nat.le_max_left _ _)
   ·have:most v (x::r)<=most v r:=(le_most v _ r).mpr (.inr ⟨y,hy,h1,h2⟩)
    split
    ·exact Nat.le_trans this (Nat.le_max_right _ _)
    ·exact this
 ·have mono:most v r<=most v (x::r):=by
   rcases (le_most v _ r).mp (Nat.le_refl _) with h|⟨y,hy,h1,h2⟩
   ·omega
   ·exact (le_most v _ _).mpr (.inr ⟨y,List.mem_cons_of_mem _ hy,h1,h2⟩)
  split
  ·rename_i hv
   exact Nat.max_le.mpr ⟨(le_most v _ _).mpr (.inr ⟨x,List.mem_cons_self ..,hv,Nat.le_refl _⟩),mono⟩
  ·exact mono
theorem mv_eq:∀(p:List Nat) (i v:Nat),movedFrom i v (zr p)=mvGo i v (most v (zr p)) p
 | [],_,_=>rfl
 |x::r,i,v=>by
  rw [zr_cons]
  show (if most v (zr r) < most v ((x,1+most (x+1) (zr r))::zr r) then movedFrom (i+1) (x+1) (zr r) else i::movedFrom (i+1) v (zr r))=_
  unfold mvGo canK
  have mc:=most_cons v (x,1+most (x+1) (zr r)) (zr r)
  by_cases h:most v (zr r) < most v ((x,1+most (x+1) (zr r))::zr r)
  ·rw [if_pos h,if_neg (by rw [decide_eq_true_iff];omega),mv_eq r]
   have hx:most v ((x,1+most (x+1) (zr r))::zr r)=1+most (x+1) (zr r):=by
    rw [mc] at h⊢
    split at h
    ·rename_i hv
     rw [if_pos hv]
     rcases Nat.le_total (1+most (x+1) (zr r)) (most v (zr r)) with q|q
     ·have e:max (1+most (x+1) (zr r)) (most v (zr r))=most v (zr r):=Nat.max_eq_right q
      rw [show max (x,1+most (x+1) (zr r)).2 (most v (zr r))=max (1+most (x+1) (zr r)) (most v (zr r)) from rfl,e] at h
      omega
     ·exact Nat.max_eq_left q
    ·omega
   rw [hx,Nat.add_sub_cancel_left]
  ·rw [if_neg h,if_pos (by rw [decide_eq_true_iff];omega),mv_eq r]
   have hx:most v ((x,1+most (x+1) (zr r))::zr r)=most v (zr r):=by
    have:most v (zr r)<=most v ((x,1+most (x+1) (zr r))::zr r):=by
     rw [mc]
     split
     ·exact Nat.le_max_right _ _
     ·exact Nat.le_refl _
    omega
   rw [hx]
theorem most0 (p:List Nat):most 0 (zr p)=mx (rises p):=by
 rw [most_eq]
 congr 1
 rw [List.filter_eq_self.mpr (fun y _=>decide_eq_true (Nat.zero_le _))]
 unfold zr
 rw [List.map_snd_zip (by rw [rises_len];exact Nat.le_refl _)]
theorem moved_eq (p:List Nat):movedOf p=mvGo 0 0 (mx (rises p)) p:=by
 show movedFrom 0 0 (zr p)=_
 rw [mv_eq,most0]
theorem mvGo_lt:∀(p:List Nat) (i v k:Nat),∀j∈mvGo i v k p,i<=j/\j < i+p.length
 | [],_,_,_,_,h=>nomatch h
 |x::r,i,v,k,j,h=>by
  unfold mvGo at h
  rw [List.length_cons]
  split at h
  ·rcases List.mem_cons.mp h with e|h
   ·omega
   ·have:=mvGo_lt r (i+1) v k j h
    omega
  ·have:=mvGo_lt r (i+1) (x+1) (k - 1) j h
   omega
theorem mvGo_len:∀(p:List Nat) (i v k:Nat),(mvGo i v k p).length<=p.length
 | [],_,_,_=>Nat.le_refl _
 |x::r,i,v,k=>by
  unfold mvGo
  rw [List.length_cons]
  split
  ·rw [List.length_cons]
   have:=mvGo_len r (i+1) v k
   omega
  ·have:=mvGo_len r (i+1) (x+1) (k - 1)
   omega
end QM
namespace Q
open PySem PySem.Spec PyProof.Rows L2 XL
open Quire (Sign Word Sig Gath Fate)
open QuireCopies (Line)
def lenTo (p:List Nat) (i:Nat):List Nat:=List.replicate (p.length - i) 1++QuireCopies.rises (p.drop (p.length - i))
theorem drop_at' {α:Type}:∀{l:List α} {n:Nat} {x:α},l[n]? =some x->l.drop n=x::l.drop (n+1)
 | [],_,_,h=>by cases h
 |y::l,0,x,h=>by injection h with h;rw [h];rfl
 |y::l,n+1,x,h=>by rw [List.drop_succ_cons,List.drop_succ_cons];exact drop_at' (l:=l) (n:=n) h
theorem paired_fn {α:Type} {f:α->V}:∀{l:List α} {ys:List V},Paired (fun s y=>y=f s) l ys->ys=l.map f
 |_,_,.nil=>rfl
 |_,_,.cons h t=>by rw [h,paired_fn t];rfl
section
variable {P:Program} {w:World} {K:W.Frag} {mg:Str->Option Value} {base:Heap} {a:Adr}
def spRL:Sp:=fun vs H Q _=>∃rl p,vs= [.ref rl]/\H rl=some (.lst (txV p))/\p.length<=48/\∀H' l,Same H H'->H l=none->H' l=some (.lst (txV (QuireCopies.rises p)))->Q (.ref l) H'
theorem ok_20 (T:Txt K mg a):FnOk P w K mg base (CXd P w) 1 a.f_20 a.d_20 ["row"] spRL:=by
 refine okN T.u_20 sc_20 (fun vs H Q E h=>?_) (fun cdv A outer s H vs Q E hr h=>?_)
 ·obtain ⟨_,_,rfl,_⟩:=h;rfl
 ·obtain ⟨rl,p,rfl,hp,pl,k⟩:=h
  refine ⟨_,(pss_cons (ps_set (i:=1) sc_20.nd rfl (Or.inr rfl) (pe_op op_rep (pe_lst (pa_cons pe_int pa_nil)) (pe_callB call_len_seq (by rfl) T.b_len PySem.boot_len (pa_cons (pv 0) pa_nil)))) (pss_cons (ps_for PassesOwn.never rfl (pi_range3 rfl T.b_range (pa_cons (pe_op op_sub (pe_callB call_len_seq (by rfl) T.b_len PySem.boot_len (pa_cons (pv 0) pa_nil)) pe_int) (pa_cons (pe_un un_neg pe_int) (pa_cons (pe_un un_neg pe_int) pa_nil)))) (pg_name (i:=2) sc_20.nd rfl (Or.inr rfl)) (pss_cons (ps_setLc (i:=3) rfl sc_20.nd rfl rfl rfl (pi_range2 rfl T.b_range (pa_cons (pe_op op_add (pv 2) pe_int) (pa_cons (pe_callB call_len_seq (by rfl) T.b_len PySem.boot_len (pa_cons (pv 0) pa_nil)) pa_nil))) (blkOk_by (own:= [("later",4)]) rfl) (fun _ _ _ _ _=>(pg_name (i:=4) sc_20.nd rfl (Or.inl rfl))) (fun _ _ _ _ _=>(pts_one (pt_cmpR op_gt (pe_ix (r:=rIxL K) ix_list (pv 0) (pv 4) (fun _ _=>rfl)) (pe_ix (r:=rIxL K) ix_list (pv 0) (pv 2) (fun _ _=>rfl)) (nomark _)))) (fun _ _ _ _ _=>(pe_ix (r:=rIxL K) ix_list (pv 1) (pv 4) (fun _ _=>rfl)))) (pss_one (ps_asg (pe_op op_add pe_int (pe_maxD (by rfl) T.b_max (by rfl) (pa_cons (pv 3) pa_nil) (pk_cons pe_int pk_nil))) (pg_sub (pv 1) (pv 2) set_list))))) (pss_one (ps_ret (pv 1))))),?_⟩
  have tl:(txV p).length=p.length:=txV_len p
  walk_at "go0"
  refine ⟨by show 1<=sizeLine;rw [sizeLine_eq];omega,fun p1 hp1=>?_⟩
  have s1:=(R.new_of (o:= .lst [.int 1]) hp1).2.2
  walk_at "go"
  refine ⟨rl,_,rfl,.inl (SqL.of (s1 _ _ hp)),?_⟩
  walk_at "go"
  refine ⟨p1,(p.length:Int),_,rfl,by rw [tl],upd_same,by omega,by omega,(by show 1*(p.length:Int).toNat<=_;rw [sizeLine_eq];omega),fun l hl=>?_⟩
  have s2:=s1.trans (R.new_of (o:= .lst (List.replicate (p.length:Int).toNat [V.int 1]).flatten) hl).2.2
  have n1:H l=none:=s1.free hl
  have hl2:(upd (upd H p1 (.lst [.int 1])) l (.lst (List.replicate (p.length:Int).toNat [V.int 1]).flatten)) l=some (.lst (txV (lenTo p 0))):=by
   rw [upd_same,Int.toNat_natCast]
   have e5:∀n:Nat,(List.replicate n [V.int 1]).flatten=txV (List.replicate n 1):=by
    intro n
    induction n with
    |zero=>rfl
    |succ n ih=>
     rw [List.replicate_succ,List.flatten_cons,ih,List.replicate_succ]
     rfl
   rw [e5]
   unfold lenTo
   rw [Nat.sub_zero,List.drop_length]
   show _=some (HO.lst (txV (_++ [])))
   rw [List.append_nil]
  generalize upd (upd H p1 (.lst [.int 1])) l (.lst (List.replicate (p.length:Int).toNat [V.int 1]).flatten)=H2 at s2 hl2⊢
  walk_at "go"
  refine R.for_ ?_
  refine ⟨_,rfl,rl,_,rfl,.inl (SqL.of (s2 _ _ hp)),?_⟩
  rw [tl]
  walk_at "go"
  refine ⟨(p.length:Int) - 1,-1,-1,p.length,rfl,?_,?_⟩
  ·have:=RgC.neg (i:=(p.length:Int) - 1) (j:= -1) (by omega) (by omega) (by decide) (by decide)
   have e:((p.length:Int) - 1 - -1).toNat=p.length:=by omega
   rw [e] at this
   exact this
  refine for_rangeC (fun i σ H'=>∃(v2 v3 v4:Option V),σ= [some (.ref rl),some (.ref l),v2,v3,v4]/\Same H H'/\H' l=some (.lst (txV (lenTo p i)))) ⟨none,none,none,rfl,s2,hl2⟩ ?_ ?_
  ·rintro i σ H' hi ⟨v2,v3,v4,rfl,s5,hl5⟩
   obtain ⟨n,hn⟩:∃n,p.length=i+1+n:=⟨p.length - (i+1),by omega⟩
   have ek:((p.length:Int) - 1+(i:Nat)* -1)=((n:Nat):Int):=by omega
   rw [ek]
   have hnl:n < p.length:=by omega
   obtain ⟨x,hx⟩:∃x,p[n]? =some x:=⟨p[n],List.getElem?_eq_getElem hnl⟩
   have lenE:lenTo p i=List.replicate (n+1) 1++QuireCopies.rises (p.drop (n+1)):=by
    unfold lenTo
    rw [show p.length - i=n+1 by omega]
   have lenE2:lenTo p (i+1)=List.replicate n 1++(1+QuireCopies.most (x+1) (QM.zr (p.drop (n+1))))::QuireCopies.rises (p.drop (n+1)):=by
    unfold lenTo
    rw [show p.length - (i+1)=n by omega,drop_at' hx]
    rfl
   have dl:(p.drop (n+1)).length=i:=by rw [List.length_drop];omega
   have rp:∀{j y:Nat},(p.drop (n+1))[j]? =some y->atI (txV p) (((n+1+j:Nat):Int))=some (.int (y:Int)):=fun {j y} h=>atI_nat (by
    rw [List.getElem?_drop] at h
    unfold txV
    rw [List.getElem?_map,h]
    rfl)
   have lp:∀{j y:Nat},(QuireCopies.rises (p.drop (n+1)))[j]? =some y->atI (txV (lenTo p i)) (((n+1+j:Nat):Int))=some (.int (y:Int)):=fun {j y} h=>atI_nat (by
    rw [lenE]
    unfold txV
    rw [List.getElem?_map,List.getElem?_append_right (by rw [List.length_replicate];omega),List.length_replicate,show n+1+j - (n+1)=j by omega,h]
    rfl)
   have hp5:=s5 _ _ hp
   walk_at "go"
   refine ⟨rl,_,rfl,.inl (SqL.of hp5),?_⟩
   rw [tl]
   walk_at "go"
   refine ⟨(n:Int)+1,(p.length:Int),rfl,⟨by omega,by omega,by omega,by omega⟩,?_⟩
   have em:((p.length:Int) - ((n:Int)+1)).toNat=(QM.zr (p.drop (n+1))).length:=by rw [QM.zr_len,dl];omega
   rw [em]
   refine R.lc_gen (QM.zr (p.drop (n+1))).length (fun j=>(((QM.zr (p.drop (n+1)))[j]?).map fun y=>decide (x+1<=y.1)).getD false) (fun j v _=>v= .int (((n:Int)+1)+(j:Int))) (fun D j y H=>∃s,(QM.zr (p.drop (n+1)))[j]? =some s/\y= .int (s.2:Int))
    (fun D i y H H' f h=>h) (by rw [QM.zr_len,dl];exact small (by omega)) R.itr_go R.itr_stop R.itr_yld (fun j v H4 D Y Z hj sm hD hacc yr yes no=>?_) (fun D ys H6 hD hys sm hpr=>?_)
   ·obtain ⟨⟨y,ly⟩,hy⟩:∃s,(QM.zr (p.drop (n+1)))[j]? =some s:=⟨(QM.zr (p.drop (n+1)))[j],List.getElem?_eq_getElem hj⟩
    obtain ⟨hy1,hy2⟩:=List.getElem?_zip_eq_some.mp hy
    subst yr
    have ej:((n:Int)+1)+(j:Int)=((n+1+j:Nat):Int):=by omega
    rw [ej]
    refine ⟨rfl,?_⟩
    walk_at "go"
    refine R.ixl (SqL.of (sm _ _ hp5)) (rp hy1) ?_
    walk_at "go"
    have ex:atI (txV p) ((n:Nat):Int)=some (.int (x:Int)):=atI_nat (by unfold txV;rw [List.getElem?_map,hx];rfl)
    refine R.ixl (SqL.of (sm _ _ hp5)) ex ?_
    walk_at "go"
    refine R.dif (fun h6=>?_) (fun h6=>?_)
    ·walk_at "go"
     refine R.ixl (SqL.of (sm _ _ hl5)) (lp hy2) ?_
     exact yes _ _ (Same.refl _) (by rw [hy];exact decide_eq_true (show x+1<=y by omega)) ⟨(y,ly),hy,rfl⟩
    ·exact no _ (Same.refl _) (by rw [hy];exact decide_eq_false (show ¬x+1<=y by omega))
   ·have hpr2:=paired_filter (F:=fun (s:Nat×Nat) (y:V)=>y= .int (s.2:Int)) (pg:=fun y=>decide (x+1<=y.1)) (fun i s e=>by rw [e];rfl) hpr
    have eys:ys=((((QM.zr (p.drop (n+1))).filter fun y=>decide (x+1<=y.1)).map (·.2)).map fun n:Nat=>(n:Int)).map V.int:=by
     rw [List.map_map,List.map_map]
     exact paired_fn hpr2
    have hsets:∀m:Nat,m=QuireCopies.most (x+1) (QM.zr (p.drop (n+1)))->((txV (lenTo p i)).set n (.int (1+(m:Int))))=txV (lenTo p (i+1)):=fun m hm=>by
     rw [lenE,lenE2,←hm,List.replicate_succ']
     unfold txV
     rw [List.append_assoc,List.map_append,List.map_append,List.map_append,List.set_append_right _ _ (by simp)]
     simp
    have hl6:=sm _ _ hl5
    have ll:n < (txV (lenTo p i)).length:=by
     rw [txV_len,lenE,List.length_append,List.length_replicate]
     omega
    have fin:∀m:Nat,m=QuireCopies.most (x+1) (QM.zr (p.drop (n+1)))->Same H (upd H6 l (.lst ((txV (lenTo p i)).set n (.int (1+(m:Int))))))/\(upd H6 l (.lst ((txV (lenTo p i)).set n (.int (1+(m:Int)))))) l=some (.lst (txV (lenTo p (i+1)))):=fun m hm=>
     ⟨fun b o e=>by rw [upd_ne (ne_of_none e n1)];exact sm _ _ (s5 _ _ e),by rw [upd_same,hsets m hm]⟩
    refine R.name ?_
    dsimp only
    walk_at "go"
    refine ⟨.ref D,rfl,D,_,rfl,SqL.of (by rw [hys,eys]),fun z=>?_,fun m h1 h2=>?_⟩
    ·have hm:(0:Nat)=QuireCopies.most (x+1) (QM.zr (p.drop (n+1))):=by
      rw [QM.most_eq]
      rw [List.map_eq_nil_iff] at z
      rw [z]
      rfl
     obtain ⟨f1,f2⟩:=fin 0 hm
     walk_at "go"
     refine R.setl hl6 (j:=n) rfl ll ?_
     exact ⟨_,_,_,rfl,f1,f2⟩
    ·obtain ⟨m',hm',rfl⟩:=List.mem_map.mp h1
     have hm:m'=QuireCopies.most (x+1) (QM.zr (p.drop (n+1))):=by
      rw [QM.most_eq]
      refine (QM.mx_is hm' fun y hy=>?_).symm
      have:=h2 (y:Int) (List.mem_map.mpr ⟨y,hy,rfl⟩)
      omega
     obtain ⟨f1,f2⟩:=fin m' hm
     walk_at "go"
     refine R.setl hl6 (j:=n) rfl ll ?_
     exact ⟨_,_,_,rfl,f1,f2⟩
  ·rintro σ H' ⟨v2,v3,v4,rfl,s5,hl5⟩
   walk_at "go"
   refine k H' l s5 n1 ?_
   rw [hl5]
   unfold lenTo
   rw [Nat.sub_self]
   rfl
end
end Q
namespace R
open PySem PySem.Spec PyProof.Rows L2 XL
section
variable {σ:L2.St} {H:Hp} {K:W.Frag}
theorem for_enum {a : Addr} {xs : List V} {g : TG} {tb : TS} {D : Ends} (Pv : Nat -> L2.St -> Hp -> Prop) (h0 : Pv 0 σ H) (hl : ∀ i σ H, i <= xs.length -> Pv i σ H -> SqL K H a xs)
  (hs : ∀ i y T σ H H', xs[i]? = some y -> Pv i σ H -> Same H H' -> H' T = some (.tup [.int (i : Int), y]) -> g (.ref T) σ H' fun σ2 H2 => tb { D with nx := Pv (i + 1), ct := Pv (i + 1), bk := D.nx } σ2 H2) (hd : ∀ σ H, Pv xs.length σ H -> D.nx σ H) :
  ∃ W : Nat -> Nat -> L2.St -> Hp -> Prop, (∃ m, W 0 m σ H) /\ ∀ i m σ H, W i m σ H ->
   ((Ite K a).stop i H /\ D.nx σ H) ∨ ((Ite K a).go i H /\ ∃ N : L2.St -> Hp -> Prop, (∀ σ' H', N σ' H' -> ∃ m', m' < m /\ W (i + 1) m' σ' H') /\ ∀ x H', (Ite K a).yld i H x H' -> g x σ H' fun σ2 H2 => tb { D with nx := N, ct := N, bk := D.nx } σ2 H2) := by
 refine ⟨fun i m σ H => m = xs.length - i /\ i <= xs.length /\ Pv i σ H, ⟨xs.length, rfl, Nat.zero_le _, h0⟩, ?_⟩
 rintro i m σ H ⟨rfl, hi, pv⟩
 have q := hl i σ H hi pv
 by_cases lt : i < xs.length
 ·refine .inr ⟨ite_go q i H (Same.refl H) lt, Pv (i + 1), fun σ' H' z => ⟨xs.length - (i + 1), by omega, rfl, lt, z⟩, fun x H' z => ?_⟩
  obtain ⟨s1, T, y, rfl, h1, h2⟩ := ite_yld q i H x H' lt (Same.refl H) z
  exact hs i y T σ H H' h2 pv s1 h1
 ·have e : i = xs.length := by omega
  subst e
  exact .inl ⟨ite_stop q H (Same.refl H), hd σ H pv⟩
end
end R
namespace R
open PySem PySem.Spec PyProof.Rows L2 XL Q
section
variable {σ:L2.St} {H:Hp} {Q:VK} {K:W.Frag}
theorem maxD {i:Nat} {l:Addr} {ns:List Nat} (hs:σ[i]? =some (some (.ref l))) (hl:H l=some (.lst (txV ns))) (q:Q (.int (QM.mx ns:Int)) H):tMaxD K (tCons (tVar i) tNil) σ H Q:=by
 have eR:txV ns=(ns.map fun n:Nat=>(n:Int)).map V.int:=by rw [List.map_map];rfl
 refine ⟨_,hs,l,_,rfl,SqL.of (by rw [hl,eR]),fun z=>?_,fun m h1 h2=>?_⟩
 ·rw [List.map_eq_nil_iff] at z
  rw [z] at q
  exact q
 ·obtain ⟨m',hm',rfl⟩:=List.mem_map.mp h1
  have hm:QM.mx ns=m':=QM.mx_is hm' fun y hy=>by
   have:=h2 (y:Int) (List.mem_map.mpr ⟨y,hy,rfl⟩)
   omega
  rw [←hm]
  exact q
end
end R
namespace Q
open PySem PySem.Spec PyProof.Rows L2 XL
open Quire (Sign Word Sig Gath Fate)
open QuireCopies (Line)
section
variable {P:Program} {w:World} {K:W.Frag} {mg:Str->Option Value} {base:Heap} {a:Adr}
def spCK:Sp:=fun vs H Q _=>∃rl ll p,∃i v k:Nat,vs= [.ref rl,.ref ll,.int (i:Int),.int ((v:Int) - 1),.int (k:Int)]/\H rl=some (.lst (txV p))/\H ll=some (.lst (txV (QuireCopies.rises p)))/\p.length<=48/\i<=p.length/\∀H',Same H H'->Q (.bl (QM.canK (QM.zr (p.drop i)) v k)) H'
theorem ok_135 (T:Txt K mg a):FnOk P w K mg base (CXd P w) 1 a.f_135 a.d_135 ["row","lengths","start","last","many"] spCK:=by
 refine okN T.u_135 sc_135 (fun vs H Q E h=>?_) (fun cdv A outer s H vs Q E hr h=>?_)
 ·obtain ⟨_,_,_,_,_,_,rfl,_⟩:=h;rfl
 ·obtain ⟨rl,l,p,i,v,n,rfl,hp,hl,pl,hi,k⟩:=h
  refine ⟨_,(pss_cons (ps_if (pt_cmpR op_eq (pv 4) pe_int (nomark _)) (pss_one (ps_ret pe_bl)) pss_nil) (pss_one (ps_ret (pe_callB (cr_any rfl) (by rfl) T.b_any (by rfl) (pa_cons (pe_lc rfl sc_135.nd (pi_range2 rfl T.b_range (pa_cons (pv 2) (pa_cons (pe_callB call_len_seq (by rfl) T.b_len PySem.boot_len (pa_cons (pv 0) pa_nil)) pa_nil))) (blkOk_by (own:= [("place",5)]) rfl) (fun _ _ _ _ _=>(pg_name (i:=5) sc_135.nd rfl (Or.inl rfl))) (fun _ _ _ _ _=>pts_nil) (fun _ _ _ _ _=>(pe_and (pe_cmpR op_gt (pe_ix (r:=rIxL K) ix_list (pv 0) (pv 5) (fun _ _=>rfl)) (pv 3) (nomark _)) (pe_one (pe_cmpR op_ge (pe_ix (r:=rIxL K) ix_list (pv 1) (pv 5) (fun _ _=>rfl)) (pv 4) (nomark _)))))) pa_nil))))),?_⟩
  walk_at "go0"
  have dl:(QM.zr (p.drop i)).length=p.length - i:=by rw [QM.zr_len,List.length_drop]
  refine R.dif (fun h0=>?_) (fun h0=>?_)
  ·walk_at "go"
   have e0:n=0:=by injection h0 with h0;omega
   have:=k H (Same.refl H)
   rw [QM.canK_any,e0] at this
   exact this
  ·have e0:¬n=0:=fun z=>h0 (by rw [z];rfl)
   walk_at "go"
   refine ⟨rl,_,rfl,.inl (SqL.of hp),?_⟩
   rw [txV_len]
   walk_at "go"
   refine ⟨(i:Int),(p.length:Int),rfl,⟨by omega,by omega,by omega,by omega⟩,?_⟩
   have em:((p.length:Int) - (i:Int)).toNat=(QM.zr (p.drop i)).length:=by rw [dl];omega
   rw [em]
   have rp:∀{j y:Nat},(p.drop i)[j]? =some y->atI (txV p) (((i+j:Nat):Int))=some (.int (y:Int)):=fun {j y} h=>atI_nat (by
    rw [List.getElem?_drop] at h
    unfold txV
    rw [List.getElem?_map,h]
    rfl)
   have lp:∀{j y:Nat},(QuireCopies.rises (p.drop i))[j]? =some y->atI (txV (QuireCopies.rises p)) (((i+j:Nat):Int))=some (.int (y:Int)):=fun {j y} h=>atI_nat (by
    rw [←QM.rises_drop,List.getElem?_drop] at h
    unfold txV
    rw [List.getElem?_map,h]
    rfl)
   refine R.lc_gen (QM.zr (p.drop i)).length (fun _=>true) (fun j x _=>x= .int ((i:Int)+(j:Int))) (fun D j y H=>∃s,(QM.zr (p.drop i))[j]? =some s/\y= .bl (decide (v<=s.1)&&decide (n<=s.2)))
    (fun D i y H H' f h=>h) (by rw [dl];exact small (by omega)) R.itr_go R.itr_stop R.itr_yld (fun j x H4 D Y Z hj sm hD hacc yr yes no=>?_) (fun D ys H6 hD hys sm hpr=>?_)
   ·obtain ⟨⟨y,ly⟩,hy⟩:∃s,(QM.zr (p.drop i))[j]? =some s:=⟨(QM.zr (p.drop i))[j],List.getElem?_eq_getElem hj⟩
    obtain ⟨hy1,hy2⟩:=List.getElem?_zip_eq_some.mp hy
    subst yr
    have ej:(i:Int)+(j:Int)=((i+j:Nat):Int):=by omega
    rw [ej]
    refine ⟨rfl,?_⟩
    refine R.yes ?_
    have b1:decide ((v:Int) - 1 < (y:Int))=decide (v<=y):=by
     by_cases h:v<=y
     ·rw [decide_eq_true h,decide_eq_true (by omega)]
     ·rw [decide_eq_false h,decide_eq_false (by omega)]
    have b2:decide ((n:Int)<=(ly:Int))=decide (n<=ly):=by
     by_cases h:n<=ly
     ·rw [decide_eq_true h,decide_eq_true (by omega)]
     ·rw [decide_eq_false h,decide_eq_false (by omega)]
    refine R.eand (b1:=decide (v<=y)) (b2:=decide (n<=ly)) ?_ (fun _=>?_) (yes _ _ (Same.refl _) rfl ⟨(y,ly),hy,rfl⟩)
    ·intro Qv q
     walk_at "go"
     refine R.ixl (SqL.of (sm _ _ hp)) (rp hy1) ?_
     walk_at "go"
     rw [b1]
     exact q
    ·intro Qv q
     walk_at "go"
     refine R.ixl (SqL.of (sm _ _ hl)) (lp hy2) ?_
     walk_at "go"
     rw [b2]
     exact q
   ·rw [List.filter_eq_self.mpr (fun _ _=>rfl)] at hpr
    have hpr2:=paired_range (F:=fun (s:Nat×Nat) (y:V)=>y= .bl (decide (v<=s.1)&&decide (n<=s.2))) hpr
    have eys:=paired_fn (f:=fun s:Nat×Nat=>V.bl (decide (v<=s.1)&&decide (n<=s.2))) hpr2
    walk_at "go"
    refine ⟨D,(QM.zr (p.drop i)).map fun s=>(decide (v<=s.1)&&decide (n<=s.2)),rfl,SqL.of (by rw [hys,eys,List.map_map];rfl),?_⟩
    have:=k H6 sm
    rw [QM.canK_any,decide_eq_false e0,Bool.false_or] at this
    have e2:(((QM.zr (p.drop i)).map fun s=>(decide (v<=s.1)&&decide (n<=s.2))).any id)=(QM.zr (p.drop i)).any fun s=>(decide (v<=s.1)&&decide (n<=s.2)):=by
     rw [List.any_map]
     rfl
    rw [e2]
    exact this
def spPM:Sp:=fun vs H Q _=>∃rl p,vs= [.ref rl]/\H rl=some (.lst (txV p))/\p.length<=48/\∀H' l,Same H H'->H l=none->H' l=some (.lst (txV (QuireCopies.movedOf p)))->Q (.ref l) H'
def MvAt (p:List Nat) (i v n:Nat) (done:List Nat):Prop:=QuireCopies.movedOf p=done++QM.mvGo i v n (p.drop i)
theorem ok_17 (T:Txt K mg a):FnOk P w K mg base (CXd P w) 2 a.f_17 a.d_17 ["row"] spPM:=by
 refine okN T.u_17 sc_17 (fun vs H Q E h=>?_) (fun cdv A outer s H vs Q E hr h=>?_)
 ·obtain ⟨_,_,rfl,_⟩:=h;rfl
 ·obtain ⟨rl,p,rfl,hp,pl,k⟩:=h
  refine ⟨_,(pss_cons (ps_set (i:=1) sc_17.nd rfl (Or.inl rfl) (pe_call (ok_20 T) (rm hr) rfl T.m_20 T.u_20.kp (b_20 T) .nil passN (pa_cons (pv 0) pa_nil))) (pss_cons (ps_set (i:=2) sc_17.nd rfl (Or.inl rfl) (pe_maxD (by rfl) T.b_max (by rfl) (pa_cons (pv 1) pa_nil) (pk_cons pe_int pk_nil))) (pss_cons (ps_set (i:=3) sc_17.nd rfl (Or.inl rfl) (pe_un un_neg pe_int)) (pss_cons (ps_set (i:=4) sc_17.nd rfl (Or.inl rfl) (pe_lst pa_nil)) (pss_cons (ps_for PassesOwn.never rfl (pi_enum rfl T.b_enumerate (pa_cons (pv 0) pa_nil)) (pg_tup rfl (pgs_cons (pg_name (i:=5) sc_17.nd rfl (Or.inl rfl)) (pgs_cons (pg_name (i:=6) sc_17.nd rfl (Or.inl rfl)) pgs_nil))) (pss_one (ps_if (pt_truth (pe_call (ok_135 T) (rm hr) rfl T.m_135 T.u_135.kp (b_135 T) .nil passN (pa_cons (pv 0) (pa_cons (pv 1) (pa_cons (pe_op op_add (pv 5) pe_int) (pa_cons (pv 3) (pa_cons (pv 2) pa_nil)))))) (fun _=>rfl)) (pss_one (ps_expr (pe_bm PySem.F.plainAttrs_list PySem.F.slot_list_append PySem.F.type_list_append mt_append (pv 4) (pa_cons (pv 5) pa_nil)))) (pss_cons (ps_set (i:=3) sc_17.nd rfl (Or.inl rfl) (pv 6)) (pss_one (ps_aug (i:=2) sc_17.nd rfl (Or.inl rfl) pe_int ip_sub)))))) (pss_one (ps_ret (pv 4)))))))),?_⟩
  walk_at "go0"
  refine ⟨rl,p,rfl,hp,pl,fun H1 ll s1 n1 h1=>?_⟩
  walk_at "go"
  refine R.maxD rfl h1 ?_
  walk_at "go"
  refine ⟨Nat.zero_le _,fun l hl=>?_⟩
  have nw:=R.new_of (o:= .lst []) hl
  generalize upd H1 l (.lst [])=H2 at nw⊢
  obtain ⟨_,hl2,s2⟩:=nw
  have s02:=s1.trans s2
  have nl:H l=none:=s1.free hl
  have nll:l≠ll:=(ne_of_none h1 hl).symm
  have hll:=s2 _ _ h1
  walk_at "go"
  refine R.for_ ?_
  have txl:(txV p).length=p.length:=txV_len p
  refine ⟨.ref rl,rfl,rl,_,rfl,SqL.of (s02 _ _ hp),?_⟩
  refine R.for_enum (xs:=txV p) (fun i σ H'=>∃(v n:Nat) (done:List Nat) (v5 v6:Option V),σ= [some (.ref rl),some (.ref ll),some (.int (n:Int)),some (.int ((v:Int) - 1)),some (.ref l),v5,v6]/\Same H H'/\H' ll=some (.lst (txV (QuireCopies.rises p)))/\H' l=some (.lst (txV done))/\MvAt p i v n done/\done.length<=i)
   ⟨0,QM.mx (QuireCopies.rises p),[],none,none,rfl,s02,hll,hl2,QM.moved_eq p,Nat.le_refl _⟩ ?_ ?_ ?_
  ·rintro i σ H' _ ⟨v,n,dn,v5,v6,rfl,s5,_⟩
   exact SqL.of (s5 _ _ hp)
  ·rintro i y T σ H4 H' hy ⟨v,n,dn,v5,v6,rfl,s4,hll4,hl4,mv,dle⟩ sT hT
   unfold txV at hy
   rw [List.getElem?_map] at hy
   obtain ⟨x,hx,rfl⟩:=Option.map_eq_some_iff.mp hy
   have hi:i < p.length:=(List.getElem?_eq_some_iff.mp hx).1
   have s5:=s4.trans sT
   have hll5:=sT _ _ hll4
   have hl5:=sT _ _ hl4
   refine ⟨T,_,rfl,R.sqT_of hT,rfl,_,_,rfl,?_⟩
   refine R.name ?_
   refine ⟨_,_,rfl,?_⟩
   refine R.name ?_
   refine ⟨rfl,?_⟩
   refine R.ifs ?_
   show tCall _ _ _ _ _ _ _
   walk_at "go"
   refine ⟨rl,ll,p,i+1,v,n,rfl,s5 _ _ hp,hll5,pl,hi,fun H6 s6=>R.truB ?_⟩
   unfold MvAt at mv
   rw [drop_at' hx] at mv
   unfold QM.mvGo at mv
   have hl6:=s6 _ _ hl5
   have hll6:=s6 _ _ hll5
   have s06:=s5.trans s6
   refine R.bbif (fun h6=>?_) (fun h6=>?_)
   ·rw [if_pos h6] at mv
    walk_at "go"
    refine ⟨.inl ⟨rfl,_,SqL.of hl6⟩,?_⟩
    walk_at "go"
    refine ⟨l,_,_,rfl,rfl,hl6,by rw [txV_len];rw [sizeLine_eq];omega,?_⟩
    refine ⟨v,n,dn++ [i],_,_,rfl,fun b o e=>by rw [upd_ne (ne_of_none e nl)];exact s06 _ _ e,by rw [upd_ne (Ne.symm nll)];exact hll6,by rw [upd_same,txV_app];rfl,?_,by rw [List.length_append,List.length_singleton];omega⟩
    unfold MvAt
    rw [mv,List.append_assoc]
    rfl
   ·rw [if_neg (by rw [h6];exact Bool.false_ne_true)] at mv
    have n1:1<=n:=by
     cases n with
     |zero=>
      rw [QM.canK_any] at h6
      cases h6
     |succ n=>omega
    walk_at "go"
    refine ⟨x+1,n - 1,dn,some (.int (i:Int)),some (.int (x:Int)),?_,s06,hll6,hl6,mv,by omega⟩
    have q1:((x+1:Nat):Int) - 1=(x:Int):=by omega
    have q2:((n - 1:Nat):Int)=(n:Int) - 1:=by omega
    rw [q1,q2]
    rfl
  ·rintro σ H' ⟨v,n,dn,v5,v6,rfl,s5,_,hl5,mv,_⟩
   walk_at "go"
   refine k H' l s5 nl ?_
   rw [hl5]
   unfold MvAt at mv
   rw [txl,List.drop_length] at mv
   rw [mv]
   show some (HO.lst (txV dn))=some (HO.lst (txV (dn++ [])))
   rw [List.append_nil]
end
end Q
namespace XL
open PySem PySem.Spec PyProof.Rows L2
theorem pg_tupK {X:Cx} {es:List Expr} {k:Nat} {t:TGs} {pos:Pos} (n:Nat) {K2:W.Frag} (hK:X.K=K2) (hc:X.calm=true) (h:PGs X es t)
  (hn:(assignEach es X.env).length=n:=by rfl) (hst:(assignEach es X.env).findIdx? (·.1)=none:=by rfl):PG X (.Tuple es k pos) (gTup K2 n t):=by
 subst hK
 exact pg_tup hc h hn hst
end XL
namespace Q
open PySem PySem.Spec PyProof.Rows L2 XL
open Quire (Sign Word Sig Gath Fate)
open QuireCopies (Line)
def rowOf (b c:List Gath):List Nat:=c.map fun h=>(b.map Gath.sig).idxOf h.sig
def movL (b c:List Gath):List Line:=(QuireCopies.movedOf (rowOf b c)).filterMap fun i=>(c[i]?).map fun h=>Line.move h.sig (if i=0 then none else (c[i - 1]?).map Gath.sig)
def numbered (b:List Gath):List (Gath×Nat):=b.zip (List.range b.length)
theorem num_at {b:List Gath} {i:Nat} {g:Gath} (h:b[i]? =some g):(numbered b)[i]? =some (g,i):=by
 unfold numbered
 rw [List.getElem?_zip_eq_some]
 exact ⟨h,by rw [List.getElem?_range (List.getElem?_eq_some_iff.mp h).1]⟩
theorem num_len (b:List Gath):(numbered b).length=b.length:=by unfold numbered;rw [List.length_zip,List.length_range,Nat.min_self]
theorem num_sig (b:List Gath):(numbered b).map (fun x=>x.1.sig)=b.map Gath.sig:=by
 have e2:(fun gq:Gath×Nat=>gq.1.sig)=Gath.sig∘Prod.fst:=rfl
 rw [e2,←List.map_map]
 unfold numbered
 rw [List.map_fst_zip (by rw [List.length_range];exact Nat.le_refl _)]
theorem idx_find:∀(b:List Gath) (k:Nat) (s:Sig),s∈b.map Gath.sig->((b.zip (List.range' k b.length)).find? fun x=>decide (x.1.sig=s)).map (·.2)=some (k+(b.map Gath.sig).idxOf s)
 | [],_,_,h=>nomatch h
 |g::b,k,s,h=>by
  rw [List.length_cons,List.range'_succ,List.zip_cons_cons,List.find?_cons,List.map_cons]
  by_cases e:g.sig=s
  ·simp [e]
  ·have hm:s∈b.map Gath.sig:=by
    rcases List.mem_cons.mp h with z|z
    ·exact absurd z.symm e
    ·exact z
   have:=idx_find b (k+1) s hm
   simp only [e,decide_false]
   rw [this,List.idxOf_cons]
   have e2:(g.sig==s)=false:=by
    cases z:(g.sig==s) with
    |false=>rfl
    |true=>exact absurd (beq_iff_eq.mp z) e
   rw [e2]
   simp
   omega
theorem num_val {b:List Gath} {s:Sig} (h:s∈b.map Gath.sig):valV ((numbered b).map fun x=>(kyS x.1.sig,V.int (x.2:Int))) (kyS s)=some (.int ((b.map Gath.sig).idxOf s:Nat)):=by
 rw [valV_sig (fun x:Gath×Nat=>x.1.sig) (fun x=>V.int (x.2:Int))]
 have:=idx_find b 0 s h
 rw [←List.range_eq_range',Nat.zero_add] at this
 obtain ⟨y,hy,e⟩:=Option.map_eq_some_iff.mp this
 have hy2:((numbered b).find? fun x=>decide (x.1.sig=s))=some y:=hy
 rw [hy2,←e]
 rfl
theorem in_book {b c:List Gath} {h:Gath} (hw:QuireCopies.within b c=true) (hm:h∈c):h.sig∈b.map Gath.sig:=by
 have h1:oneIn b h=true:=List.all_eq_true.mp hw h hm
 unfold oneIn at h1
 cases hg:QuireCopies.gathOf b h.sig with
 |none=>rw [hg] at h1;cases h1
 |some g=>
  obtain ⟨e,m⟩:=gath_sig hg
  rw [←e]
  exact List.mem_map_of_mem m
theorem movL_eq (b c:List Gath):∀l:List Nat,(∀i∈l,i < c.length)->Paired (fun i x=>∃g,c[i]? =some g/\x=mvL c i g) l (l.filterMap fun i=>(c[i]?).map fun h=>Line.move h.sig (if i=0 then none else (c[i - 1]?).map Gath.sig))
 | [],_=> .nil
 |i::l,h=>by
  have hi:=h i (List.mem_cons_self ..)
  rw [List.filterMap_cons,List.getElem?_eq_getElem hi]
  exact .cons ⟨c[i],List.getElem?_eq_getElem hi,rfl⟩ (movL_eq b c l fun j hj=>h j (List.mem_cons_of_mem _ hj))
theorem paired_move {c:List Gath} {H:Hp} {D:Addr}:∀{mv:List Nat} {ls:List Line} {xs:List Addr},Paired (fun i x=>∃g,c[i]? =some g/\x=mvL c i g) mv ls->Paired (fun j x=>(∃g,c[j]? =some g/\H x=some (.lst (txV (mvL c j g).text)))/\x≠D) mv xs->LinesAt H ls xs
 |_,_,_,.nil,.nil=> .nil
 |_,_,_,.cons ⟨g,h1,h2⟩ t,.cons ⟨⟨g',h3,h4⟩,_⟩ t'=>by
  rw [h1] at h3
  injection h3 with h3
  subst h3
  exact .cons (by rw [h2];exact h4) (paired_move t t')
section
variable {P:Program} {w:World} {K:W.Frag} {mg:Str->Option Value} {base:Heap} {a:Adr}
def spML (a:Adr):Sp:=fun vs H Q E=>∃bl cl b c bs cs,vs= [.ref bl,.ref cl]/\BC a H bl cl b c bs cs/\QuireCopies.within b c=true/\outL H Q (movL b c)
theorem ok_69 (T:Txt K mg a):FnOk P w K mg base (CXd P w) 4 a.f_69 a.d_69 ["book","copy"] (spML a):=by
 refine okN T.u_69 sc_69 (fun vs H Q E h=>?_) (fun cdv A outer s H vs Q E hr h=>?_)
 ·obtain ⟨_,_,_,_,_,_,rfl,_⟩:=h;rfl
 ·obtain ⟨bl,cl,b,c,bs,cs,rfl,bc,hw,k⟩:=h
  refine ⟨_,(pss_cons (ps_set (i:=2) sc_69.nd rfl (Or.inr rfl) (pe_callTy (call_dictT hr.units rfl) (by rfl) T.b_dict (by rfl) (pa_cons (pe_lc rfl sc_69.nd (pi_enum rfl T.b_enumerate (pa_cons (pv 0) pa_nil)) (blkOk_by (own:= [("place",3),("quire",4)]) rfl) (fun _ _ _ _ _=>(pg_tupK 2 (K2:=K) rfl rfl (pgs_cons (pg_name (i:=3) sc_69.nd rfl (Or.inl rfl)) (pgs_cons (pg_name (i:=4) sc_69.nd rfl (Or.inl rfl)) pgs_nil)))) (fun _ _ _ _ _=>pts_nil) (fun _ _ _ _ _=>(pe_tup (pa_cons (pe_fldK (K:=K) rfl (pv 4) rfl) (pa_cons (pv 3) pa_nil))))) pa_nil))) (pss_cons (ps_setLc (i:=5) rfl sc_69.nd rfl rfl rfl (pi_list (pv 1)) (blkOk_by (own:= [("quire",4)]) rfl) (fun _ _ _ _ _=>(pg_name (i:=4) sc_69.nd rfl (Or.inl rfl))) (fun _ _ _ _ _=>pts_nil) (fun _ _ _ _ _=>(pe_dget (hu_of hr) (pv 2) (pe_fldK (K:=K) rfl (pv 4) rfl) (fun _ _=>rfl)))) (pss_one (ps_ret (pe_lc rfl sc_69.nd (pi_list (pe_call (ok_17 T) (rm hr) rfl T.m_17 T.u_17.kp (b_17 T) .nil passN (pa_cons (pv 5) pa_nil))) (blkOk_by (own:= [("place",3)]) rfl) (fun _ _ _ _ _=>(pg_name (i:=3) sc_69.nd rfl (Or.inl rfl))) (fun _ _ _ _ _=>pts_nil) (fun _ _ _ _ _=>(pe_call (ok_79 T) (rm hr) rfl T.m_79 T.u_79.kp (b_79 T) .nil passN (pa_cons (pv 1) (pa_cons (pv 3) pa_nil))))))))),?_⟩
  have cl':cs.length=c.length:=(Paired.length bc.kc).symm
  have bl':bs.length=b.length:=(Paired.length bc.kb).symm
  have lc:=bc.mc.len
  have lb:=bc.mb.len
  walk_at "go0"
  have nl:=num_len b
  refine ⟨.ref bl,rfl,bl,_,rfl,SqL.of bc.hb,?_⟩
  refine R.lc_gen (numbered b).length (fun _=>true) (fun i x H'=>∃T y,x= .ref T/\H' T=some (.tup [.int (i:Nat),y])/\(bs.map V.ref)[i]? =some y) (fun D i y H=>∃x,y= .ref x/\∃gq,(numbered b)[i]? =some gq/\PrS H D x gq.1.sig (.int (gq.2:Int)))
   (fun D i y H H' f h=>?_) (small (by omega)) (by rw [nl,←bl'];have:=R.ite_go (SqL.of (K:=K) bc.hb);rw [List.length_map] at this;exact this) (by rw [nl,←bl'];have:=R.ite_stop (SqL.of (K:=K) bc.hb);rw [List.length_map] at this;exact this)
   (by rw [nl,←bl'];have:=R.ite_yld (SqL.of (K:=K) bc.hb);rw [List.length_map] at this;exact this) (fun i y H4 D Y Z hi sm hD hacc yr yes no=>?_) (fun D ys H3 hD hys sm hp=>?_)
  ·obtain ⟨x,e1,g,e2,e3⟩:=h
   exact ⟨x,e1,g,e2,e3.frD f⟩
  ·obtain ⟨acc,hacc⟩:=hacc
   rw [nl] at hi
   obtain ⟨g,hg⟩:∃g,b[i]? =some g:=⟨b[i],List.getElem?_eq_getElem hi⟩
   obtain ⟨q,hqi,sg,lv,gp,⟨dx,b1⟩,b2,_⟩:=paired_get bc.kb hg
   obtain ⟨T,y',rfl,hT,yr⟩:=yr
   rw [List.getElem?_map,hqi] at yr
   injection yr with yr
   subst yr
   have b1':=sm _ _ b1
   have b2':=sm _ _ b2
   refine ⟨T,_,rfl,R.sqT_of hT,rfl,_,_,rfl,?_⟩
   refine R.name ?_
   refine ⟨_,_,rfl,?_⟩
   refine R.name ?_
   refine ⟨rfl,?_⟩
   refine ⟨rfl,?_⟩
   refine R.yes ?_
   walk_at "go"
   refine ⟨by show 2<=sizeLine;rw [sizeLine_eq];omega,fun x hx=>?_⟩
   have sx:=(R.new_of (o:= .tup [.ref sg,.int (i:Int)]) hx).2.2
   exact yes _ _ sx rfl ⟨x,rfl,(g,i),num_at hg,sg,upd_same,sx _ _ b2',(ne_of_none hacc hx).symm,fun z=>by rw [z,hacc] at b2';cases b2'⟩
  ·rw [List.filter_eq_self.mpr (fun _ _=>rfl)] at hp
   obtain ⟨xs,rfl,hx⟩:=paired_refs2 (F:=fun (i:Nat) (x:Addr)=>∃gq:Gath×Nat,(numbered b)[i]? =some gq/\PrS H3 D x gq.1.sig (.int (gq.2:Int))) hp
   have hx:=paired_range hx
   walk_at "go"
   have hkv:=prs_ofA (K:=K) (sf:=fun gq:Gath×Nat=>gq.1.sig) (f:=fun gq=>V.int (gq.2:Int)) hx
   refine ⟨D,xs,_,rfl,SqL.of hys,hkv,fun d hd=>?_⟩
   have nd:((numbered b).map fun gq=>gq.1.sig).Nodup:=by rw [num_sig];exact bc.mb.kok.nd
   rw [merge_sigA nd]
   have nw:=R.new_of (o:= .dT ((numbered b).map fun gq=>(kyS gq.1.sig,V.int (gq.2:Int)))) hd
   generalize upd H3 d (.dT ((numbered b).map fun gq=>(kyS gq.1.sig,V.int (gq.2:Int))))=H5 at nw⊢
   obtain ⟨_,hd5,s5⟩:=nw
   have s05:Same H H5:=sm.trans s5
   have bc5:=bc.same s05
   clear hkv hx hys
   walk_at "go"
   refine R.kil (SqL.of bc5.hc) ?_
   refine R.lc_gen c.length (fun _=>true) (fun i x _=>(cs.map V.ref)[i]? =some x) (fun D i y H=>∃h,c[i]? =some h/\y= .int (((b.map Gath.sig).idxOf h.sig:Nat):Int))
    (fun D i y H H' f h=>h) (small (by omega)) (by rw [←cl'];have:=R.itl_go (SqL.of (K:=K) bc5.hc);rw [List.length_map] at this;exact this) (by rw [←cl'];have:=R.itl_stop (SqL.of (K:=K) bc5.hc);rw [List.length_map] at this;exact this)
    (by rw [←cl'];have:=R.itl_yld (SqL.of (K:=K) bc5.hc);rw [List.length_map] at this;exact this) (fun i y H4 D2 Y Z hi sm4 hD2 hacc yr yes no=>?_) (fun D2 ys H6 hD2 hys2 sm6 hp2=>?_)
   ·obtain ⟨g,hg⟩:∃g,c[i]? =some g:=⟨c[i],List.getElem?_eq_getElem hi⟩
    obtain ⟨q,hqi,sg,lv,gp,⟨dx,b1⟩,b2,_⟩:=paired_get bc5.kc hg
    rw [List.getElem?_map,hqi] at yr
    injection yr with yr
    subst yr
    have b1':=sm4 _ _ b1
    have b2':=sm4 _ _ b2
    refine ⟨rfl,?_⟩
    refine R.yes ?_
    refine R.dget ?_
    walk_at "go"
    refine ⟨d,.int (((b.map Gath.sig).idxOf g.sig:Nat):Int),rfl,?_,?_⟩
    ·have:=DGet.t (k:=kyS g.sig) (sm4 _ _ hd5) b2'
     rw [num_val (in_book hw (List.mem_of_getElem? hg))] at this
     exact this
    ·exact yes _ _ (Same.refl _) rfl ⟨g,hg,rfl⟩
   ·rw [List.filter_eq_self.mpr (fun _ _=>rfl)] at hp2
    have hp2:=paired_range (F:=fun (h:Gath) (y:V)=>y= .int (((b.map Gath.sig).idxOf h.sig:Nat):Int)) hp2
    have eys:ys=txV (rowOf b c):=by
     rw [paired_fn (f:=fun h:Gath=>V.int (((b.map Gath.sig).idxOf h.sig:Nat):Int)) hp2]
     unfold txV rowOf
     rw [List.map_map]
     rfl
    subst eys
    have rlen:(rowOf b c).length=c.length:=List.length_map ..
    have s06:=s05.trans sm6
    walk_at "go"
    refine ⟨D2,rowOf b c,rfl,hys2,by omega,fun H7 l s7 n7 h7=>?_⟩
    have s07:=s06.trans s7
    have bc7:=bc.same s07
    have mlt:∀i∈QuireCopies.movedOf (rowOf b c),i < c.length:=fun i hi=>by
     rw [QM.moved_eq] at hi
     have:=(QM.mvGo_lt _ _ _ _ i hi).2
     rw [rlen] at this
     omega
    have mlen:(QuireCopies.movedOf (rowOf b c)).length<=1000000:=by
     rw [QM.moved_eq]
     have:=QM.mvGo_len (rowOf b c) 0 0 (QM.mx (QuireCopies.rises (rowOf b c)))
     omega
    unfold movL at k
    generalize QuireCopies.movedOf (rowOf b c)=mv at h7 mlt mlen k
    have tl7:(txV mv).length=mv.length:=txV_len mv
    refine R.kil (SqL.of h7) ?_
    refine R.lc_gen mv.length (fun _=>true) (fun i x _=>(txV mv)[i]? =some x) (fun D i y H=>∃x,y= .ref x/\∃j,mv[i]? =some j/\(∃g,c[j]? =some g/\H x=some (.lst (txV (mvL c j g).text)))/\x≠D)
     (fun D i y H H' f h=>?_) (small mlen) (by rw [←tl7];exact R.itl_go (SqL.of (K:=K) h7)) (by rw [←tl7];exact R.itl_stop (SqL.of (K:=K) h7)) (by rw [←tl7];exact R.itl_yld (SqL.of (K:=K) h7)) (fun i y H4 D3 Y Z hi sm4 hD3 hacc yr yes no=>?_) (fun D3 ys H8 hD3 hys3 sm8 hp3=>?_)
    ·obtain ⟨x,e1,j,e2,⟨g,e3,e4⟩,e5⟩:=h
     exact ⟨x,e1,j,e2,⟨g,e3,f _ _ e5 e4⟩,e5⟩
    ·obtain ⟨acc,hacc⟩:=hacc
     obtain ⟨j,hj⟩:∃j,mv[i]? =some j:=⟨mv[i],List.getElem?_eq_getElem hi⟩
     unfold txV at yr
     rw [List.getElem?_map,hj] at yr
     injection yr with yr
     subst yr
     have hjc:=mlt j (List.mem_of_getElem? hj)
     have bc4:=bc7.same sm4
     refine ⟨rfl,?_⟩
     refine R.yes ?_
     walk_at "go"
     refine ⟨cl,cs,c,j,c[j],rfl,bc4.hc,bc4.kc,List.getElem?_eq_getElem hjc,fun g hg=>(bc.mc.mok g hg).2,fun H9 x s9 n9 e9=>?_⟩
     exact yes _ _ s9 rfl ⟨x,rfl,j,hj,⟨c[j],List.getElem?_eq_getElem hjc,e9⟩,(ne_of_none hacc n9).symm⟩
    ·rw [List.filter_eq_self.mpr (fun _ _=>rfl)] at hp3
     obtain ⟨xs3,rfl,hx3⟩:=paired_refs2 (F:=fun (i:Nat) (x:Addr)=>∃j,mv[i]? =some j/\(∃g,c[j]? =some g/\H8 x=some (.lst (txV (mvL c j g).text)))/\x≠D3) hp3
     have hx3:=paired_range hx3
     refine k H8 D3 xs3 (s07.trans sm8) (s07.free hD3) hys3 ?_
     exact paired_move (movL_eq b c mv mlt) hx3
end
theorem tell_eq (b c:List Gath):QuireCopies.tell b c=(lackL b c++b.flatMap (chg c))++movL b c:=by
 rw [List.append_assoc]
 rfl
section
variable {P:Program} {w:World} {K:W.Frag} {mg:Str->Option Value} {base:Heap} {a:Adr}
def spAL (a:Adr):Sp:=fun vs H Q E=>∃bl cl b c bs cs,vs= [.ref bl,.ref cl]/\BC a H bl cl b c bs cs/\if QuireCopies.within b c=true then outL H Q (QuireCopies.tell b c) else RzN a E
theorem lack_len {b c:List Gath} (mb:MkOk b):(lackL b c).length<=48:=by
 unfold lackL
 rw [List.length_map]
 exact Nat.le_trans (List.length_filter_le _ _) mb.len
theorem chgs_len48 {b c:List Gath} (mb:MkOk b):(b.flatMap (chg c)).length<=41*48:=by
 have h1:=chgs_len (c:=c) (l:=b) (fun g hg=>(mb.mok g hg).1)
 have h2:=mb.len
 omega
theorem mov_len {b c:List Gath} (mc:MkOk c):(movL b c).length<=48:=by
 unfold movL
 refine Nat.le_trans (List.length_filterMap_le _ _) ?_
 rw [QM.moved_eq]
 refine Nat.le_trans (QM.mvGo_len _ _ _ _) ?_
 unfold rowOf
 rw [List.length_map]
 exact mc.len
theorem ok_16 (T:Txt K mg a):FnOk P w K mg base (CXd P w) 7 a.f_16 a.d_16 ["book","copy"] (spAL a):=by
 refine okX T.u_16 sc_16 (fun vs H Q E h=>?_) (fun cdv A outer s H vs Q E hr h=>?_)
 ·obtain ⟨_,_,_,_,_,_,rfl,_⟩:=h;rfl
 ·obtain ⟨bl,cl,b,c,bs,cs,rfl,bc,k⟩:=h
  refine ⟨_,(pss_cons (ps_expr (pe_call (ok_134 T) (rm hr) rfl T.m_134 T.u_134.kp (b_134 T) .nil passD (pa_cons (pv 0) (pa_cons (pv 1) pa_nil)))) (pss_one (ps_ret (pe_op op_cat (pe_op op_cat (pe_call (ok_63 T) (rm hr) rfl T.m_63 T.u_63.kp (b_63 T) .nil passN (pa_cons (pv 0) (pa_cons (pv 1) pa_nil))) (pe_call (ok_36 T) (rm hr) rfl T.m_36 T.u_36.kp (b_36 T) .nil passN (pa_cons (pv 0) (pa_cons (pv 1) pa_nil)))) (pe_call (ok_69 T) (rm hr) rfl T.m_69 T.u_69.kp (b_69 T) .nil passN (pa_cons (pv 0) (pa_cons (pv 1) pa_nil))))))),?_⟩
  walk_at "go0"
  refine ⟨bl,cl,b,c,bs,cs,rfl,bc,?_⟩
  by_cases hw:QuireCopies.within b c=true
  ·rw [if_pos hw] at k⊢
   intro H1 s1
   have bc1:=bc.same s1
   have l1:=lack_len (c:=c) bc.mb
   have l2:=chgs_len48 (c:=c) bc.mb
   have l3:=mov_len (b:=b) bc.mc
   walk_at "go"
   refine ⟨bl,cl,b,c,bs,cs,rfl,bc1,fun H2 D2 ps2 s2 n2 h2 ln2=>?_⟩
   have bc2:=bc1.same s2
   walk_at "go"
   refine ⟨bl,cl,b,c,bs,cs,rfl,bc2,hw,fun H3 D3 ps3 s3 n3 h3 ln3=>?_⟩
   have q2:ps2.length=(lackL b c).length:=(Paired.length ln2).symm
   have q3:ps3.length=(b.flatMap (chg c)).length:=(Paired.length ln3).symm
   walk_at "go"
   refine ⟨D2,D3,_,_,rfl,rfl,s3 _ _ h2,h3,by rw [List.length_map,List.length_map];exact small (by omega),fun D4 n4=>?_⟩
   have nw:=R.new_of (o:= .lst (ps2.map V.ref++ps3.map V.ref)) n4
   generalize upd H3 D4 (.lst (ps2.map V.ref++ps3.map V.ref))=H4 at nw⊢
   obtain ⟨_,h4,s4⟩:=nw
   have ln4:LinesAt H4 (lackL b c++b.flatMap (chg c)) (ps2++ps3):=paired_app ((ln2.same s3).same s4) (ln3.same s4)
   have bc4:=(bc2.same s3).same s4
   walk_at "go"
   refine ⟨bl,cl,b,c,bs,cs,rfl,bc4,hw,fun H5 D5 ps5 s5 n5 h5 ln5=>?_⟩
   have q5:ps5.length=(movL b c).length:=(Paired.length ln5).symm
   walk_at "go"
   refine ⟨D4,D5,_,_,rfl,rfl,s5 _ _ h4,h5,by rw [List.length_append,List.length_map,List.length_map,List.length_map];exact small (by omega),fun D6 n6=>?_⟩
   have sA:Same H H5:=((((s1.trans s2).trans s3).trans s4).trans s5)
   have nw:=R.new_of (o:= .lst (ps2.map V.ref++ps3.map V.ref++ps5.map V.ref)) n6
   generalize upd H5 D6 (.lst (ps2.map V.ref++ps3.map V.ref++ps5.map V.ref))=H6 at nw⊢
   obtain ⟨_,h6,s6⟩:=nw
   refine k H6 D6 ((ps2++ps3)++ps5) (sA.trans s6) (sA.free n6) (by rw [h6,List.map_append,List.map_append]) ?_
   rw [tell_eq]
   exact paired_app ((ln4.same s5).same s6) (ln5.same s6)
  ·rw [if_neg hw] at k⊢
   exact k
end
def tellA (t u:List Nat):List Int:=match Quire.read t,Quire.read u with
 | .ok b,.ok c=>if QuireCopies.within b c=true then QuireE.gives (QuireCopies.linesText (QuireCopies.tell b c)) else [-4]
 |_,_=> [-6]
theorem nats_of:∀{l:List Int},l.all (W.Codec.inInt 0 2147483647)=true->∃t:List Nat,l=t.map fun n:Nat=>(n:Int)
 | [],_=>⟨[],rfl⟩
 |z::l,h=>by
  rw [List.all_cons,Bool.and_eq_true] at h
  obtain ⟨t,rfl⟩:=nats_of h.2
  have hz:0<=z:=by
   have h1:=h.1
   unfold W.Codec.inInt at h1
   simp at h1
   omega
  exact ⟨z.toNat::t,by rw [List.map_cons];congr 1;omega⟩
theorem nats_back (t:List Nat):QhCopiesNeutral.nats (t.map fun n:Nat=>(n:Int))=t:=by
 unfold QhCopiesNeutral.nats QhCopiesNeutral.nat
 rw [List.map_map]
 exact List.map_id t
theorem tell_spec {t u:List Nat} (ht:t.length<=30000) (hu:u.length<=30000):PyWqaucg.tell (t.map fun n:Nat=>(n:Int)) (u.map fun n:Nat=>(n:Int))=tellA t u:=by
 show QuireE.answer (.tell (QhCopiesNeutral.nats _) (QhCopiesNeutral.nats _))=_
 rw [nats_back,nats_back]
 show (if QuireE.TEXT < t.length∨QuireE.TEXT < u.length then QuireE.says (-2) else _)=_
 rw [if_neg (by unfold QuireE.TEXT;omega)]
 unfold tellA QuireE.says
 cases Quire.read t<;>cases Quire.read u<;>rfl
theorem lines_len:∀{ls:List Line},(∀x∈ls,x.text.length<=200)->(QuireCopies.linesText ls).length<=200*ls.length
 | [],_=>Nat.le_refl _
 |x::ls,h=>by
  have h1:=h x (List.mem_cons_self ..)
  have h2:=lines_len (ls:=ls) (fun y hy=>h y (List.mem_cons_of_mem _ hy))
  unfold QuireCopies.linesText at h2⊢
  rw [List.flatMap_cons,List.length_append,List.length_cons]
  omega
theorem gapl_len {g h:Gath} {k:Nat} (wh:WF h) (ok:g.sig.ok=true) (hk:k<=20):∀x∈QuireCopies.lineGap g h k,x.text.length<=200:=by
 intro x hx
 unfold QuireCopies.lineGap at hx
 split at hx
 ·cases hx
 ·rw [List.mem_singleton] at hx
  subst hx
  have l1:=text_len ok
  have l2:=dec_len (n:=k) (by omega)
  have l3:(h.put k).length<=21:=put_len wh k
  have pl:(QuireCopies.putText (h.put k)).length<=50:=by
   unfold QuireCopies.putText
   split
   ·exact (by decide)
   ·split
    ·have:=dec_len (n:=(h.put k).length) (by omega)
     omega
    ·rw [List.length_cons,List.length_append]
     unfold Quire.wordText Quire.text
     rw [List.length_map,List.length_map]
     simp
     omega
  show (Quire.PLUS::(g.sig.text++(QuireCopies.DOT::(Quire.decimal k++(Quire.BLANK::(QuireCopies.putText (h.put k)++ [QuireCopies.LF])))))).length<=200
  simp only [List.length_cons,List.length_append,List.length_nil]
  omega
theorem lfl_len {g h:Gath} {k:Nat} (ok:g.sig.ok=true) (hk:k<=20):∀x∈QuireCopies.lineLeaf g h k,x.text.length<=200:=by
 intro x hx
 unfold QuireCopies.lineLeaf at hx
 split at hx
 ·cases hx
 ·rw [List.mem_singleton] at hx
  subst hx
  have l1:=text_len ok
  have l2:=dec_len (n:=k+1) (by omega)
  show (QuireCopies.fateSign (h.fate k)::(g.sig.text++(QuireCopies.DOT::(Quire.decimal (k+1)++ [QuireCopies.LF])))).length<=200
  simp only [List.length_cons,List.length_append,List.length_nil]
  omega
theorem tell_len {b c:List Gath} (mb:MkOk b) (mc:MkOk c):(QuireCopies.linesText (QuireCopies.tell b c)).length<=1000000:=by
 have h1:=lack_len (c:=c) mb
 have h2:=chgs_len48 (c:=c) mb
 have h3:=mov_len (b:=b) mc
 have hl:(QuireCopies.tell b c).length<=3000:=by
  rw [tell_eq,List.length_append,List.length_append]
  omega
 refine Nat.le_trans (lines_len fun x hx=>?_) (by omega:200*(QuireCopies.tell b c).length<=1000000)
 rw [tell_eq,List.mem_append,List.mem_append] at hx
 rcases hx with (hx|hx)|hx
 ·unfold lackL at hx
  obtain ⟨g,hg,rfl⟩:=List.mem_map.mp hx
  have:=text_len (mb.mok g (List.mem_filter.mp hg).1).2
  show (QuireCopies.GONE::(g.sig.text++ [QuireCopies.LF])).length<=200
  simp only [List.length_cons,List.length_append,List.length_nil]
  omega
 ·obtain ⟨g,hg,hx⟩:=List.mem_flatMap.mp hx
  have gok:=mb.mok g hg
  have n20:=(size_le gok.1.sz).2
  unfold chg at hx
  split at hx
  ·rename_i h hh
   have wh:=(mc.mok h (gath_sig hh).2).1
   unfold QuireCopies.between at hx
   rcases List.mem_append.mp hx with hx|hx
   ·exact gapl_len wh gok.2 (by omega) x hx
   ·obtain ⟨k,hk,hx⟩:=List.mem_flatMap.mp hx
    have hk:=List.mem_range.mp hk
    rcases List.mem_append.mp hx with hx|hx
    ·exact lfl_len gok.2 (by omega) x hx
    ·exact gapl_len wh gok.2 (by omega) x hx
  ·cases hx
 ·unfold movL at hx
  obtain ⟨i,_,hx⟩:=List.mem_filterMap.mp hx
  obtain ⟨h,hh,rfl⟩:=Option.map_eq_some_iff.mp hx
  have l1:=text_len (mc.mok h (List.mem_of_getElem? hh)).2
  by_cases h0:i=0
  ·rw [if_pos h0]
   show (QuireCopies.MOVE::(h.sig.text++ [QuireCopies.LF])).length<=200
   simp only [List.length_cons,List.length_append,List.length_nil]
   omega
  ·rw [if_neg h0]
   cases hc:c[i - 1]? with
   |none=>
    show (QuireCopies.MOVE::(h.sig.text++ [QuireCopies.LF])).length<=200
    simp only [List.length_cons,List.length_append,List.length_nil]
    omega
   |some h'=>
    have l2:=text_len (mc.mok h' (List.mem_of_getElem? hc)).2
    show (QuireCopies.MOVE::(h.sig.text++(Quire.BLANK::(h'.sig.text++ [QuireCopies.LF])))).length<=200
    simp only [List.length_cons,List.length_append,List.length_nil]
    omega
section
variable {P:Program} {w:World} {K:W.Frag} {mg:Str->Option Value} {base:Heap} {a:Adr}
def spTell (K:W.Frag):Sp:=fun vs H Q _=>∃(a b:Addr) (ns ms:List Int),vs= [.ref a,.ref b]/\SqL K H a (ns.map V.int)/\SqL K H b (ms.map V.int)/\ns.length<=30000/\ms.length<=30000/\ns.all (W.Codec.inInt 0 2147483647)=true/\ms.all (W.Codec.inInt 0 2147483647)=true/\∀(H':Hp) (p:Addr),H' p=some (.lst ((PyWqaucg.tell ns ms).map V.int))->Q (.ref p) H'
theorem ok_tell0 (T:Txt K mg a):FnOk P w K mg base (CXd P w) 11 a.f_168 a.d_168 ["t","u"] (spTell K):=by
 refine okT T.u_168 sc_168 (fun vs H Q E h=>?_) (fun cdv A outer s H vs Q E hr h=>?_)
 ·obtain ⟨_,_,_,_,rfl,_⟩:=h;rfl
 ·obtain ⟨t,u,ns,ms,rfl,ht,hu,tl,ul,tb,ub,k⟩:=h
  refine ⟨_,ps0_try (fun D=>(pss_cons (ps_set (i:=2) sc_168.nd rfl (Or.inl rfl) (pe_call (ok_39 T) (rm hr) rfl T.m_39 T.u_39.kp (b_39 T) .nil (passT (env:=envOfC "tell" (defScope s_168) s.heap.objs.size a.f_168 cdv) rfl rfl hr.hd rfl (Hnd.cons T.xc_76 (by rfl) T.m_76 (by decide) (fun _=>pss_one (ps_ret (pe_lst (pa_cons (pe_un un_neg pe_int) pa_nil)))) (Hnd.cons T.xc_74 (by rfl) T.m_74 (by decide) (fun _=>pss_one (ps_ret (pe_lst (pa_cons (pe_un un_neg pe_int) pa_nil)))) Hnd.nil))) (pa_cons (pv 0) (pa_cons pe_int (pa_cons (pe_callB call_len_seq (by rfl) T.b_len PySem.boot_len (pa_cons (pv 0) pa_nil)) pa_nil)))))
   (pss_cons (ps_set (i:=3) sc_168.nd rfl (Or.inl rfl) (pe_call (ok_39 T) (rm hr) rfl T.m_39 T.u_39.kp (b_39 T) .nil (passT (env:=envOfC "tell" (defScope s_168) s.heap.objs.size a.f_168 cdv) rfl rfl hr.hd rfl (Hnd.cons T.xc_76 (by rfl) T.m_76 (by decide) (fun _=>pss_one (ps_ret (pe_lst (pa_cons (pe_un un_neg pe_int) pa_nil)))) (Hnd.cons T.xc_74 (by rfl) T.m_74 (by decide) (fun _=>pss_one (ps_ret (pe_lst (pa_cons (pe_un un_neg pe_int) pa_nil)))) Hnd.nil))) (pa_cons (pv 1) (pa_cons pe_int (pa_cons (pe_callB call_len_seq (by rfl) T.b_len PySem.boot_len (pa_cons (pv 1) pa_nil)) pa_nil)))))
   (pss_one (ps_set (i:=4) sc_168.nd rfl (Or.inl rfl) (pe_call (ok_16 T) (rm hr) rfl T.m_16 T.u_16.kp (b_16 T) .nil (passT (env:=envOfC "tell" (defScope s_168) s.heap.objs.size a.f_168 cdv) rfl rfl hr.hd rfl (Hnd.cons T.xc_76 (by rfl) T.m_76 (by decide) (fun _=>pss_one (ps_ret (pe_lst (pa_cons (pe_un un_neg pe_int) pa_nil)))) (Hnd.cons T.xc_74 (by rfl) T.m_74 (by decide) (fun _=>pss_one (ps_ret (pe_lst (pa_cons (pe_un un_neg pe_int) pa_nil)))) Hnd.nil))) (pa_cons (pv 2) (pa_cons (pv 3) pa_nil))))))))
   (ps0_of (pss_one (ps_ret (pe_call (ok_38 T) (rm hr) rfl T.m_38 T.u_38.kp (b_38 T) .nil passD (pa_cons (pv 4) pa_nil))))),?_⟩
  obtain ⟨tt,rfl⟩:=nats_of tb
  obtain ⟨uu,rfl⟩:=nats_of ub
  rw [List.length_map] at tl ul
  rw [tell_spec tl ul] at k
  have ht:SqL K H t (txV tt):=by rw [List.map_map] at ht;exact ht
  have hu:SqL K H u (txV uu):=by rw [List.map_map] at hu;exact hu
  have six:∀(σ:L2.St) (H':Hp),tellA tt uu= [-6]->tRet (tLst (tCons (tUn (L2.rU fun i=>V.int (-i)) (tC (V.int 6))) tNil)) {nx:=fun _ H'=>Q .non H',rt:=Q} σ H':=fun σ H' e=>by
   rw [e] at k
   refine R.ret ?_
   walk_at "go"
   exact ⟨by show 1<=sizeLine;rw [sizeLine_eq];omega,fun p hp=>k _ p upd_same⟩
  have four:∀(σ:L2.St) (H':Hp),tellA tt uu= [-4]->tRet (tLst (tCons (tUn (L2.rU fun i=>V.int (-i)) (tC (V.int 4))) tNil)) {nx:=fun _ H'=>Q .non H',rt:=Q} σ H':=fun σ H' e=>by
   rw [e] at k
   refine R.ret ?_
   walk_at "go"
   exact ⟨by show 1<=sizeLine;rw [sizeLine_eq];omega,fun p hp=>k _ p upd_same⟩
  have rest0:∀l:List Nat,rest l 0 l.length=l:=fun l=>by
   unfold rest
   rw [List.take_length]
   rfl
  unfold tTry
  dsimp only [L2.cxOf,L2.Cx.nox,L2.Cx.wish,L2.Cx.blk]
  walk_at "go"
  refine ⟨t,_,rfl,.inl ht,?_⟩
  rw [txV_len]
  walk_at "go"
  refine ⟨t,0,tt.length,tt,rfl,ht,Nat.le_refl _,Nat.zero_le _,tl,?_⟩
  rw [rest0]
  cases hr1:Quire.read tt with
  |error x=>
   have hr1':Quire.itemsAt (tt.length+1) [] 0 tt= .error x:=hr1
   rw [hr1']
   intro H' dx _
   refine .inl ⟨rfl,fun σ=>six σ H' ?_⟩
   unfold tellA
   rw [hr1]
  |ok b=>
   have hr1':Quire.itemsAt (tt.length+1) [] 0 tt= .ok b:=hr1
   rw [hr1']
   intro H1 bl bs s1 hb1 bk1 mb
   walk_at "go"
   refine ⟨u,_,rfl,.inl (s1.seq hu),?_⟩
   rw [txV_len]
   walk_at "go"
   refine ⟨u,0,uu.length,uu,rfl,s1.seq hu,Nat.le_refl _,Nat.zero_le _,ul,?_⟩
   rw [rest0]
   cases hr2:Quire.read uu with
   |error x=>
    have hr2':Quire.itemsAt (uu.length+1) [] 0 uu= .error x:=hr2
    rw [hr2']
    intro H' dx _
    refine .inl ⟨rfl,fun σ=>six σ H' ?_⟩
    unfold tellA
    rw [hr1,hr2]
   |ok c=>
    have hr2':Quire.itemsAt (uu.length+1) [] 0 uu= .ok c:=hr2
    rw [hr2']
    intro H2 cl cs s2 hc2 bk2 mc
    walk_at "go"
    have bc:BC a H2 bl cl b c bs cs:=⟨s2 _ _ hb1,hc2,(bk1.bk).same s2,bk2.bk,mb,mc⟩
    refine ⟨bl,cl,b,c,bs,cs,rfl,bc,?_⟩
    by_cases hw:QuireCopies.within b c=true
    ·rw [if_pos hw]
     intro H3 D ps s3 n3 h3 ln3
     walk_at "go"
     refine ⟨D,ps,QuireCopies.tell b c,rfl,h3,ln3,tell_len mb mc,fun H4 r e=>k H4 r ?_⟩
     rw [e]
     unfold tellA
     rw [hr1,hr2]
     dsimp only
     rw [if_pos hw]
     unfold QuireE.gives QuireE.nats txV
     rw [List.map_map]
     rfl
    ·rw [if_neg hw]
     intro H' dx f v _
     refine .inr ⟨a.c_74,_,_,rfl,Ne.symm T.ne_TextFault_74,T.xc_74,.inl ⟨rfl,fun σ=>four σ H' ?_⟩⟩
     unfold tellA
     rw [hr1,hr2]
     dsimp only
     rw [if_neg hw]
end
end Q
namespace QM
theorem c10_app {a b:List Nat}:(a++b).count 10=a.count 10+b.count 10:=List.count_append
theorem c10_no {l:List Nat} (h:∀x∈l,x≠10):l.count 10=0:=List.count_eq_zero.mpr fun h1=>h _ h1 rfl
theorem dec10 (n:Nat):(Quire.decimal n).count 10=0:=c10_no fun x hx=>by
 obtain ⟨d,_,rfl⟩:=List.mem_map.mp hx
 omega
theorem sig10 (s:Quire.Sig):s.text.count 10=0:=by
 have h:∀i,[Quire.signChars.getD i 0].count 10=0:=fun i=>by
  by_cases hi:i < Quire.signChars.length
  ·have:∀j:Fin 50,[Quire.signChars.getD j.1 0].count 10=0:=by decide
   exact this ⟨i,hi⟩
  ·rw [List.getD_eq_getElem?_getD,List.getElem?_eq_none (Nat.le_of_not_lt hi)];rfl
 unfold Quire.Sig.text
 rw [c10_app,h]
 split
 ·rfl
 ·rw [dec10]
theorem word10 (w:Quire.Word):(Quire.wordText w).count 10=0:=c10_no fun x hx=>by
 unfold Quire.wordText Quire.text at hx
 rw [List.map_map] at hx
 obtain ⟨s,_,rfl⟩:=List.mem_map.mp hx
 cases s<;>decide
theorem put10 (w:Quire.Word):(QuireCopies.putText w).count 10=0:=by
 unfold QuireCopies.putText
 split
 ·rfl
 ·split
  ·exact dec10 _
  ·rw [List.count_cons,c10_app,word10];rfl
theorem line10 (x:QuireCopies.Line):x.text.count 10=1:=by
 rcases x with s|⟨f,s,k⟩|⟨s,k,w⟩|⟨s,_|t⟩
 ·show (QuireCopies.GONE::(s.text++ [10])).count 10=1
  rw [List.count_cons,c10_app,sig10];rfl
 ·show (QuireCopies.fateSign f::(s.text++(QuireCopies.DOT::(Quire.decimal k++ [10])))).count 10=1
  rw [List.count_cons,c10_app,sig10,List.count_cons,c10_app,dec10];cases f<;>rfl
 ·show (Quire.PLUS::(s.text++(QuireCopies.DOT::(Quire.decimal k++(Quire.BLANK::(QuireCopies.putText w++ [10])))))).count 10=1
  rw [List.count_cons,c10_app,sig10,List.count_cons,c10_app,dec10,List.count_cons,c10_app,put10];rfl
 ·show (QuireCopies.MOVE::(s.text++ [10])).count 10=1
  rw [List.count_cons,c10_app,sig10];rfl
 ·show (QuireCopies.MOVE::(s.text++(Quire.BLANK::(t.text++ [10])))).count 10=1
  rw [List.count_cons,c10_app,sig10,List.count_cons,c10_app,sig10];rfl
theorem lines10:∀l:List QuireCopies.Line,(QuireCopies.linesText l).count 10=l.length
 | []=>rfl
 |x::l=>by
  have h:=lines10 l
  unfold QuireCopies.linesText at h⊢
  rw [List.flatMap_cons,c10_app,line10,h,List.length_cons];omega
end QM
namespace Q
open PySem PySem.Spec PyProof.Rows L2 XL
open Quire (Sign Word Sig Gath Fate)
open QuireCopies (Line)
def rCountI (K:W.Frag):V->List V->Hp->VK->Prop:=fun x xs H Q=>∃(a:Addr) (ns:List Int) (k:Int),x= .ref a/\xs= [.int k]/\SqL K H a (ns.map V.int)/\Q (.int (ns.count k:Nat)) H
theorem mt_lcount {X:Cx}:MtR X "list.count" (rCountI X.K):=by
 intro pins s σ H x xs v us Q I rx rxs h
 obtain ⟨a,ns,k,rfl,rfl,hs,q⟩:=h
 cases rx
 cases rxs with
 |cons ry rt=>
  cases rt
  obtain ⟨t,rfl⟩:=ry
  obtain ⟨its,rv,ht,_⟩:=I.list hs
  exact count_list_ints ht.isList rv.ints ⟨.int _,H,I.tok _,⟨_,rfl⟩,q⟩
def countOf:List Int->List Int
 | []=> []
 |z::r=>if z < 0 then z::r else [((r.count 10:Nat):Int)]
theorem count_map:∀l:List Nat,(l.map fun n:Nat=>(n:Int)).count 10=l.count 10
 | []=>rfl
 |x::l=>by
  rw [List.map_cons,List.count_cons,List.count_cons,count_map l]
  by_cases h:x=10
  ·subst h;rfl
  ·have h1:((x:Int)==10)=false:=by rw [beq_eq_false_iff_ne];omega
   have h2:(x==10)=false:=by rw [beq_eq_false_iff_ne];exact h
   rw [h1,h2]
theorem count_spec {t u:List Nat} (ht:t.length<=30000) (hu:u.length<=30000):
  PyWqaucg.count (t.map fun n:Nat=>(n:Int)) (u.map fun n:Nat=>(n:Int))=countOf (tellA t u)/\∃z r,tellA t u=z::r:=by
 have e:PyWqaucg.count (t.map fun n:Nat=>(n:Int)) (u.map fun n:Nat=>(n:Int))=QuireE.answer (.count t u):=by
  show QuireE.answer (.count (QhCopiesNeutral.nats _) (QhCopiesNeutral.nats _))=_
  rw [nats_back,nats_back]
 rw [e]
 show (if QuireE.TEXT < t.length∨QuireE.TEXT < u.length then QuireE.says (-2) else _)=_/\_
 rw [if_neg (by unfold QuireE.TEXT;omega)]
 unfold tellA QuireE.says
 cases Quire.read t with
 |error x=>exact ⟨rfl,_,_,rfl⟩
 |ok b=>
  cases Quire.read u with
  |error x=>exact ⟨rfl,_,_,rfl⟩
  |ok c=>
   dsimp only
   by_cases hw:QuireCopies.within b c=true
   ·rw [if_pos hw,if_pos hw]
    refine ⟨?_,_,_,rfl⟩
    ·show _=countOf (((QuireCopies.linesText (QuireCopies.tell b c)).length:Int)::(QuireCopies.linesText (QuireCopies.tell b c)).map fun n:Nat=>(n:Int))
     unfold countOf
     dsimp only
     rw [if_neg (by omega),count_map,QM.lines10]
   ·rw [if_neg hw,if_neg hw]
    exact ⟨rfl,_,_,rfl⟩
section
variable {P:Program} {w:World} {K:W.Frag} {mg:Str->Option Value} {base:Heap} {a:Adr}
theorem ok_168 (T:Txt K mg a):FnOk P w K mg base (CXd P w) 11 a.f_168 a.d_168 ["t","u"] (spTell K):=ok_tell0 T
def spCount (K:W.Frag):Sp:=fun vs H Q _=>∃(a b:Addr) (ns ms:List Int),vs= [.ref a,.ref b]/\SqL K H a (ns.map V.int)/\SqL K H b (ms.map V.int)/\ns.length<=30000/\ms.length<=30000/\ns.all (W.Codec.inInt 0 2147483647)=true/\ms.all (W.Codec.inInt 0 2147483647)=true/\∀(H':Hp) (p:Addr),H' p=some (.lst ((PyWqaucg.count ns ms).map V.int))->Q (.ref p) H'
theorem ok_count0 (T:Txt K mg a):FnOk P w K mg base (CXd P w) 12 a.f_161 a.d_161 ["t","u"] (spCount K):=by
 refine okN T.u_161 sc_161 (fun vs H Q E h=>?_) (fun cdv A outer s H vs Q E hr h=>?_)
 ·obtain ⟨_,_,_,_,rfl,_⟩:=h;rfl
 ·obtain ⟨t,u,ns,ms,rfl,ht,hu,tl,ul,tb,ub,k⟩:=h
  refine ⟨_,(pss_cons (ps_set (i:=2) sc_161.nd rfl (Or.inl rfl) (pe_call (ok_168 T) (rm hr) rfl T.m_168 T.u_168.kp (b_168 T) .nil passN (pa_cons (pv 0) (pa_cons (pv 1) pa_nil)))) (pss_cons (ps_if (pt_cmpR op_lt (pe_ix ix_list (pv 2) pe_int (fun _ _=>rfl)) pe_int (nomark _)) (pss_one (ps_ret (pv 2))) pss_nil) (pss_cons (ps_set (i:=3) sc_161.nd rfl (Or.inl rfl) (pe_slice sl_list (pv 2) (po_some pe_int) po_none)) (pss_one (ps_ret (pe_lst (pa_cons (pe_bm PySem.F.plainAttrs_list PySem.F.slot_list_count PySem.F.type_list_count mt_lcount (pv 3) (pa_cons (g_72 T) pa_nil)) pa_nil))))))),?_⟩
  walk_at "go0"
  refine ⟨t,u,ns,ms,rfl,ht,hu,tl,ul,tb,ub,fun H1 p hp=>?_⟩
  obtain ⟨tt,rfl⟩:=nats_of tb
  obtain ⟨uu,rfl⟩:=nats_of ub
  rw [List.length_map] at tl ul
  rw [tell_spec tl ul] at hp
  obtain ⟨e1,z,r,e3⟩:=count_spec tl ul
  rw [e1,e3] at k
  rw [e3] at hp
  walk_at "go"
  have h0:atI ((z::r).map V.int) 0=some (.int z):=atI_nat (j:=0) rfl
  have hc:cutV ((z::r).map V.int) (some 1) none=r.map V.int:=by
   unfold cutV
   rw [HT.sIx_none,show (some (1:Int))=some ((1:Nat):Int) from rfl,HT.sIx_nat,List.map_cons,List.length_cons,Nat.min_eq_left (by omega),List.drop_succ_cons,List.drop_zero,List.take_of_length_le (by omega)]
  refine R.ixl (SqL.of hp) h0 ?_
  walk_at "go"
  unfold countOf at k
  dsimp only at k
  refine R.dif (fun h=>?_) (fun h=>?_)<;>walk_at "go"
  ·rw [if_pos h] at k
   exact k H1 p hp
  ·rw [if_neg h] at k
   refine ⟨_,rfl,1,rfl,p,_,rfl,SqL.of hp,fun y hy=>?_⟩
   rw [hc]
   walk_at "go"
   refine ⟨.inl ⟨rfl,_,SqL.of upd_same⟩,?_⟩
   walk_at "go"
   refine ⟨y,r,10,rfl,rfl,SqL.of upd_same,?_⟩
   walk_at "go"
   exact ⟨by show 1<=sizeLine;rw [sizeLine_eq];omega,fun D hD=>k _ D upd_same⟩
end
theorem hd_ok {P:Program} {w:World} {K:W.Frag} {mg:Str->Option Value} {base:Heap} {a:Adr} (T:Txt K mg a):FnOk P w K mg base (CXd P w) 40 a.f_161 a.d_161 ["t","u"] (spCount K):=(ok_count0 T).mono (by decide)
end Q
open PySem PySem.W PyProof.Rows
namespace PySem.W.Fast
theorem tw14095129652813916318:True:=trivial
theorem tw10985027192378854453:True:=trivial
theorem tw17488597380397543793:True:=trivial
theorem tw7577073124433004776:True:=trivial
theorem tw4905304678719645287:True:=trivial
theorem tw6025254036618689373:True:=trivial
theorem tw6720242682543895169:True:=trivial
theorem tw2642977678814328759:True:=trivial
theorem tw9661243299966896069:True:=trivial
theorem tw16841393427275843930:True:=trivial
theorem tw410051055722400548:True:=trivial
theorem tw116432594669859591:True:=trivial
theorem tw5833562624159214244:True:=trivial
theorem tw6191477291386227203:True:=trivial
theorem tw16321157326930450707:True:=trivial
theorem tw8277268594391673530:True:=trivial
theorem tw1546385122239488786:True:=trivial
theorem tw9269438141869834676:True:=trivial
theorem tw18177287935634557568:True:=trivial
theorem tw17812890463472849662:True:=trivial
theorem tw12677917849853949583:True:=trivial
theorem tw4783245373427250247:True:=trivial
theorem tw17627008135414005442:True:=trivial
theorem tw4071336146806597658:True:=trivial
theorem tw13757622385354401953:True:=trivial
theorem tw8776796477887304434:True:=trivial
theorem tw17436192250027740352:True:=trivial
theorem tw1872275488238211241:True:=trivial
theorem tw2013273537245163252:True:=trivial
theorem tw4644139704033024422:True:=trivial
theorem tw9974437262340329988:True:=trivial
theorem tw15329948990982253582:True:=trivial
theorem tw161187121919697037:True:=trivial
theorem tw3478391861546931084:True:=trivial
theorem tw10260823572728874162:True:=trivial
theorem tw2488246097681648706:True:=trivial
theorem tw1861889999620977768:True:=trivial
theorem tw5300354323547880282:True:=trivial
theorem tw5025808854511627098:True:=trivial
theorem tw14592175296859700969:True:=trivial
theorem tw15798299934377425152:True:=trivial
theorem tw11763761200981482827:True:=trivial
theorem tw17633418794159712007:True:=trivial
theorem tw1077328524839750088:True:=trivial
theorem tw9662533537491575302:True:=trivial
theorem tw10557826479857423047:True:=trivial
theorem tw18017027297365699213:True:=trivial
theorem tw11559063618604997623:True:=trivial
theorem tw7534578595436672035:True:=trivial
theorem tw248422078125786275:True:=trivial
theorem tw8244180316937211095:True:=trivial
theorem tw9882253097578893986:True:=trivial
theorem tw2198723341862542517:True:=trivial
theorem tw8357987177329369214:True:=trivial
theorem tw12587997837836612110:True:=trivial
theorem tw3772559477196470722:True:=trivial
theorem tw13322577152509695200:True:=trivial
theorem tw17466010901777239169:True:=trivial
theorem tw17487463280291156143:True:=trivial
theorem tw9234442480843161610:True:=trivial
theorem tw6851624192024449879:True:=trivial
theorem tw10452850639034382593:True:=trivial
theorem tw10573079700547539661:True:=trivial
theorem tw11941320764960255655:True:=trivial
theorem tw3750321074826995843:True:=trivial
theorem tw11677612511096822446:True:=trivial
theorem tw11941071148700585008:True:=trivial
theorem tw2843729754755216782:True:=trivial
theorem tw9832323286296569444:True:=trivial
theorem tw10601092086566074314:True:=trivial
theorem tw12857507427000522505:True:=trivial
theorem tw18094075931787045296:True:=trivial
theorem tw1654336418011443463:True:=trivial
theorem tw17631577680751986000:True:=trivial
theorem tw14325324473533219981:True:=trivial
theorem tw15349647396547666170:True:=trivial
theorem tw2217887210892151940:True:=trivial
theorem tw15224836355688098346:True:=trivial
theorem tw11170404832072740668:True:=trivial
theorem tw6006684126115974427:True:=trivial
theorem tw11574785934634135766:True:=trivial
theorem tw14570578196178612307:True:=trivial
theorem tw9047620835745631273:True:=trivial
theorem tw17137061604819205576:True:=trivial
theorem tw17863628223914499594:True:=trivial
theorem tw11880432961790900581:True:=trivial
theorem tw3612257232408949532:True:=trivial
theorem tw14316364914547967945:True:=trivial
theorem tw12359203147555779405:True:=trivial
theorem tw15270421832204859537:True:=trivial
theorem tw2932153184433114466:True:=trivial
theorem tw8137394593208211268:True:=trivial
theorem tw17980774266196611473:True:=trivial
theorem tw1247967878303380664:True:=trivial
theorem tw9920654034554675235:True:=trivial
theorem tw9843733111787792493:True:=trivial
theorem tw3088579386475249450:True:=trivial
theorem tw7292154957139792623:True:=trivial
theorem tw2108688614933002500:True:=trivial
theorem tw8857096232575840894:True:=trivial
theorem tw17142073865417447879:True:=trivial
theorem tw1434581096511489613:True:=trivial
theorem tw3106734919987635460:True:=trivial
theorem tw2229648361156503867:True:=trivial
theorem tw17000909481309417998:True:=trivial
theorem tw3955644450237095269:True:=trivial
theorem tw15864048428335900999:True:=trivial
theorem tw11938040384153740048:True:=trivial
theorem tw10669198093837453236:True:=trivial
theorem tw5782960377694926408:True:=trivial
theorem tw13475331461532958136:True:=trivial
theorem tw3951630208245792695:True:=trivial
theorem tw7992344385085850150:True:=trivial
theorem tw15748924671990676499:True:=trivial
theorem tw11215699174627630363:True:=trivial
theorem tw7071412987385812738:True:=trivial
theorem tw13850482795634084216:True:=trivial
theorem tw7657070899148794619:True:=trivial
theorem tw6244480633915208175:True:=trivial
theorem tw5351194180177462257:True:=trivial
theorem tw5717931511903254151:True:=trivial
theorem tw13314333519458457804:True:=trivial
theorem tw10677754193821376025:True:=trivial
theorem tw4818508325071571482:True:=trivial
theorem tw8550096033718725458:True:=trivial
theorem tw14402678449623992104:True:=trivial
theorem tw9334619205921855246:True:=trivial
theorem tw5669500593244626468:True:=trivial
theorem tw5145267877700494681:True:=trivial
theorem tw13317393715069676916:True:=trivial
theorem tw3656095865900358072:True:=trivial
theorem tw9650814363593759401:True:=trivial
theorem tw5254773315707336513:True:=trivial
theorem tw16305957942346276402:True:=trivial
theorem tw13402702873334303434:True:=trivial
theorem tw825278567248917425:True:=trivial
theorem tw2849873585528525380:True:=trivial
theorem tw14292428079658109997:True:=trivial
theorem tw9656970639495822973:True:=trivial
theorem tw6647516019906871794:True:=trivial
theorem tw14313530166486207394:True:=trivial
theorem tw13376074651659988450:True:=trivial
theorem tw13428542786289033102:True:=trivial
theorem tw15006016663905186357:True:=trivial
theorem tw4410946646151275164:True:=trivial
theorem tw1238482313942365405:True:=trivial
theorem tw1499226992576358242:True:=trivial
theorem tw13032653012712806209:True:=trivial
theorem tw11388933502649764673:True:=trivial
theorem tw5049624882397898718:True:=trivial
theorem tw9743385298276920805:True:=trivial
theorem tw10899280906389933822:True:=trivial
theorem tw1104400219631604191:True:=trivial
theorem tw2071683361487356184:True:=trivial
theorem tw7187191200203119216:True:=trivial
theorem tw198516625755227807:True:=trivial
theorem tw7278668715297220205:True:=trivial
theorem tw12590547943172807090:True:=trivial
theorem tw12215206096585882724:True:=trivial
theorem tw9554794219906798616:True:=trivial
theorem tw7214005493016845512:True:=trivial
theorem tw5952666012540688236:True:=trivial
theorem tw7024490117648028949:True:=trivial
theorem tw8652369468465420518:True:=trivial
theorem tw8936187285650781464:True:=trivial
theorem tw11005422286086722176:True:=trivial
theorem tw16390320184225469217:True:=trivial
theorem tw14881942856386576782:True:=trivial
theorem tw18173524789125728618:True:=trivial
theorem tw6824899797304292408:True:=trivial
theorem tw17222161561439320531:True:=trivial
theorem tw2686460514595935289:True:=trivial
theorem tw1597130668057558113:True:=trivial
theorem tw1613356149217122636:True:=trivial
theorem tw4902594171003074003:True:=trivial
theorem tw2045117286470760379:True:=trivial
theorem tw11239922690737070334:True:=trivial
theorem tw1940866884599725654:True:=trivial
theorem tw13721202734836324231:True:=trivial
theorem tw3303011391822920838:True:=trivial
theorem tw9906465965814506572:True:=trivial
theorem tw3283280312644631274:True:=trivial
theorem tw7813511172885375695:True:=trivial
theorem tw7322928895207133829:True:=trivial
theorem tw3458609897855868918:True:=trivial
theorem tw15317112023268696343:True:=trivial
theorem tw5161880051635183824:True:=trivial
theorem tw1607413221363358377:True:=trivial
theorem tw12706553436901683328:True:=trivial
theorem tw11563048419376678509:True:=trivial
theorem tw11444046257814326627:True:=trivial
theorem tw11236420009936233790:True:=trivial
theorem tw7041709219544238036:True:=trivial
theorem tw3031061331774582727:True:=trivial
theorem tw5108034030296923114:True:=trivial
theorem tw969479582746484616:True:=trivial
theorem tw17479628758276253833:True:=trivial
theorem tw14416326192240267668:True:=trivial
theorem tw5511372582476101320:True:=trivial
theorem tw2153384207325652483:True:=trivial
theorem tw15824885686748328568:True:=trivial
theorem tw15514249698254067095:True:=trivial
theorem tw9285301465647015058:True:=trivial
theorem tw11924506114765960112:True:=trivial
theorem tw8985853276147523713:True:=trivial
theorem tw8518082907613577953:True:=trivial
theorem tw16552683422603693978:True:=trivial
theorem tw6753379010404640001:True:=trivial
theorem tw6543113448849745247:True:=trivial
theorem tw3750715448395935770:True:=trivial
theorem tw14946355975448706641:True:=trivial
theorem tw7863902723123301665:True:=trivial
theorem tw18090076068356853537:True:=trivial
theorem tw11039180381181286125:True:=trivial
theorem tw8000869403645756897:True:=trivial
theorem tw2198956299737691516:True:=trivial
theorem tw16911694296599098477:True:=trivial
theorem tw11357017262128267694:True:=trivial
theorem tw15497037314996534798:True:=trivial
theorem tw2482857384392533841:True:=trivial
theorem tw9992733293533336844:True:=trivial
theorem tw16018775544114345692:True:=trivial
theorem tw3783979330252878743:True:=trivial
theorem tw3165779443549856123:True:=trivial
theorem tw11021715344855635263:True:=trivial
theorem tw17413475057303546375:True:=trivial
theorem tw9485831517296253352:True:=trivial
theorem tw7136198014781997374:True:=trivial
theorem tw6515532532626089523:True:=trivial
theorem tw9708641302468365061:True:=trivial
theorem tw14287114985609689072:True:=trivial
theorem tw14255349437245564385:True:=trivial
theorem tw2746393032403764097:True:=trivial
theorem tw1895392723795691688:True:=trivial
theorem tw4577393507041666305:True:=trivial
theorem tw17181413928082199691:True:=trivial
theorem tw9851485979012389111:True:=trivial
theorem tw8741725103280543467:True:=trivial
theorem tw1468806935578404359:True:=trivial
theorem tw81223943729083565:True:=trivial
theorem tw9609556076820003927:True:=trivial
theorem tw1762423198732947790:True:=trivial
theorem tw16264596579656229160:True:=trivial
theorem tw12473999160280043314:True:=trivial
theorem tw8241069515176189468:True:=trivial
theorem tw18240790384583814248:True:=trivial
theorem tw18303039973480945342:True:=trivial
theorem tw2818155534724411744:True:=trivial
theorem tw8623816763857275839:True:=trivial
theorem tw14322985767699167331:True:=trivial
theorem tw2350677221487297256:True:=trivial
theorem tw1658881305069163401:True:=trivial
theorem tw1549150682828106476:True:=trivial
theorem tw13043657765196881360:True:=trivial
theorem tw7772419943409062643:True:=trivial
theorem tw6546660018248984353:True:=trivial
theorem tw18276498862633397116:True:=trivial
theorem tw4937692778691834585:True:=trivial
theorem tw8159794801986677762:True:=trivial
theorem tw14847434306674102073:True:=trivial
theorem tw3587846412983767252:True:=trivial
theorem tw16035000611115291113:True:=trivial
theorem tw14508812650401604990:True:=trivial
theorem tw7449081178004925986:True:=trivial
theorem tw17935361181982550745:True:=trivial
theorem tw7223618265154502612:True:=trivial
theorem tw5962681005494428871:True:=trivial
theorem tw3829893357152219473:True:=trivial
theorem tw12128901791809943166:True:=trivial
theorem tw8074562426791886329:True:=trivial
theorem tw6313626490946537836:True:=trivial
theorem tw12536410085267446087:True:=trivial
theorem tw16318461320971903452:True:=trivial
theorem tw15007030605943555436:True:=trivial
theorem tw3306699588967464868:True:=trivial
theorem tw965166746387856289:True:=trivial
theorem tw4043038609852467192:True:=trivial
theorem tw17905615861923902815:True:=trivial
theorem tw2644228423805802651:True:=trivial
theorem tw16301330988659647169:True:=trivial
theorem tw14361916931691760890:True:=trivial
theorem tw6668647638555277478:True:=trivial
theorem tw14134633445273879625:True:=trivial
theorem tw7672029505865162976:True:=trivial
theorem tw17031347764867115613:True:=trivial
theorem tw16210137921029593873:True:=trivial
theorem tw13842590623747154444:True:=trivial
theorem tw4376142603819749266:True:=trivial
theorem tw8508560065017685907:True:=trivial
theorem tw4042645910988713424:True:=trivial
theorem tw17814301782865995594:True:=trivial
theorem tw1651007367407426585:True:=trivial
theorem tw7390525049977212581:True:=trivial
theorem tw17959743594403530506:True:=trivial
theorem tw16982486762389663663:True:=trivial
theorem tw9565032515421037669:True:=trivial
theorem tw7745909498661037033:True:=trivial
theorem tw5762658004298034820:True:=trivial
theorem tw332060642262697799:True:=trivial
theorem tw17759047873623328124:True:=trivial
theorem tw13339589728298116940:True:=trivial
theorem tw9880269955418585736:True:=trivial
theorem tw968482158774515761:True:=trivial
theorem tw9650321282579056614:True:=trivial
theorem tw9465486897963400509:True:=trivial
theorem tw9411163709666008646:True:=trivial
theorem tw9404502844301449090:True:=trivial
theorem tw9292352718128315150:True:=trivial
theorem tw9197299272442814438:True:=trivial
theorem tw9181041350006315008:True:=trivial
theorem tw8922155078705090809:True:=trivial
theorem tw8876467078843708860:True:=trivial
theorem tw8747815431689049487:True:=trivial
theorem tw8707198508900193439:True:=trivial
theorem tw868493951921726677:True:=trivial
theorem tw8650370876543873317:True:=trivial
theorem tw8625517398735939546:True:=trivial
theorem tw8511930938741247275:True:=trivial
theorem tw8447483996555996851:True:=trivial
theorem tw8272337474352443163:True:=trivial
theorem tw7868019409261750344:True:=trivial
theorem tw7789731933054229249:True:=trivial
theorem tw759933440992485549:True:=trivial
theorem tw7444369232156060656:True:=trivial
theorem tw7287153069271651799:True:=trivial
theorem tw707941831352525472:True:=trivial
theorem tw6975380725028217853:True:=trivial
theorem tw6910609726989742903:True:=trivial
theorem tw6728753915386696792:True:=trivial
theorem tw6699041395359070976:True:=trivial
theorem tw6429791349621033481:True:=trivial
theorem tw5995566881670770946:True:=trivial
theorem tw5883820357344175225:True:=trivial
theorem tw5656127692103679596:True:=trivial
theorem tw5467602117611246547:True:=trivial
theorem tw535931305712447327:True:=trivial
theorem tw5094375903092990623:True:=trivial
theorem tw486731710999704494:True:=trivial
theorem tw4662104633978131181:True:=trivial
theorem tw400097006954679992:True:=trivial
theorem tw3780468312403981662:True:=trivial
theorem tw3533229915825888782:True:=trivial
theorem tw3462277982218150210:True:=trivial
theorem tw3374736337187272307:True:=trivial
theorem tw2926954737763227288:True:=trivial
theorem tw2896937547173774352:True:=trivial
theorem tw2858884207998199335:True:=trivial
theorem tw2655558066138689404:True:=trivial
theorem tw2628556584063142008:True:=trivial
theorem tw2368334017895164179:True:=trivial
theorem tw2350914110769717633:True:=trivial
theorem tw2270403670706169316:True:=trivial
theorem tw18345311609828500524:True:=trivial
theorem tw18141142029127314630:True:=trivial
theorem tw18014374018528036918:True:=trivial
theorem tw17875476661591395456:True:=trivial
theorem tw1780873144227643063:True:=trivial
theorem tw17774902450555745087:True:=trivial
theorem tw17718023929049666269:True:=trivial
theorem tw17685089560562427064:True:=trivial
theorem tw17619962549516689672:True:=trivial
theorem tw17600239544556948215:True:=trivial
theorem tw1747283664817680268:True:=trivial
theorem tw17304572808267580711:True:=trivial
theorem tw17282434762051921584:True:=trivial
theorem tw17267651762985639045:True:=trivial
theorem tw17128164413605102392:True:=trivial
theorem tw16967173298452521555:True:=trivial
theorem tw16941313489357525162:True:=trivial
theorem tw16878864784149392446:True:=trivial
theorem tw16561053693611949115:True:=trivial
theorem tw16556437209145292616:True:=trivial
theorem tw16464369588993196460:True:=trivial
theorem tw16327045464518104581:True:=trivial
theorem tw16261313009081784209:True:=trivial
theorem tw16240471658521596229:True:=trivial
theorem tw16195979802095657248:True:=trivial
theorem tw15921931012678665351:True:=trivial
theorem tw15825343842286474070:True:=trivial
theorem tw15572487068561345013:True:=trivial
theorem tw1542585516296167989:True:=trivial
theorem tw15056715628264816369:True:=trivial
theorem tw15001946936111423174:True:=trivial
theorem tw14951876719232362063:True:=trivial
theorem tw14652005057369375682:True:=trivial
theorem tw14388403348808607087:True:=trivial
theorem tw14294991234916659701:True:=trivial
theorem tw14244468087851444373:True:=trivial
theorem tw14030933513402037986:True:=trivial
theorem tw13874446459564408238:True:=trivial
theorem tw13764137271185127730:True:=trivial
theorem tw13425185986535971712:True:=trivial
theorem tw13241905466566126624:True:=trivial
theorem tw12981755773324099235:True:=trivial
theorem tw12713211040869978620:True:=trivial
theorem tw12538321555897582494:True:=trivial
theorem tw12483288968623974731:True:=trivial
theorem tw12403579279713516652:True:=trivial
theorem tw12335087881381579657:True:=trivial
theorem tw12279392949466422140:True:=trivial
theorem tw1198577497692737410:True:=trivial
theorem tw11683281342800738780:True:=trivial
theorem tw11647161791999578023:True:=trivial
theorem tw11567904900871282864:True:=trivial
theorem tw11406318537426378227:True:=trivial
theorem tw10499210609348254961:True:=trivial
theorem tw1048271512169062646:True:=trivial
theorem tw10114432937023858765:True:=trivial
end PySem.W.Fast
set_option maxRecDepth 100000 in
set_option maxHeartbeats 0 in
theorem PySem.Challenge.cw_quirecopies_s04_count_holds : PySem.Challenge.rw_quirecopies_s04_count.Holds := by
 w_on; k_headS; (case hw => exact ⟨[.list [], .list []], by decide +kernel, by decide +kernel⟩)
 k_fillS
 refine XL.walk_own (r := PySem.Challenge.rw_quirecopies_s04_count) (k := 40) (ps := ["t", "u"]) (sp := Q.spCount) (by decide +kernel) rfl rfl ⟨rfl, by decide, by decide⟩ (fun w h Y => PySem.W.kIn_of Y) ?F ?S
 case F =>
  intro w mg fa h Y KX G hmg
  have T : ∃ a, Q.Txt (L2.KOf KX) mg a := by
   dsimp only [L2.KOf]
   refine' ⟨_, Q.txt_mk KX G ?z_76 ?z_74 ?z_157 ?z_150 ?z_37 ?z_62 ?z_136 ?z_51 ?z_78 ?z_3 ?z_21 ?z_60 ?z_149 ?z_1 ?z_137 ?z_162 ?z_33 ?z_68 ?z_67 ?z_65 ?z_169 ?z_31 ?z_52 ?z_17 ?z_20 ?z_135 ?z_16 ?z_134 ?z_63 ?z_36 ?z_53 ?z_64 ?z_77 ?z_32 ?z_69 ?z_79 ?z_41 ?z_42 ?z_43 ?z_44 ?z_54 ?z_19 ?z_55 ?z_2 ?z_39 ?z_80 ?z_0 ?z_66 ?z_82 ?z_70 ?z_81 ?z_18 ?z_34 ?z_50 ?z_168 ?z_161 ?z_38 ?z_56 ?l_76 ?ln_76 ?ls_76 ?z_15 ?y_TextFault_setattr ?y_TextFault_getattribute ?y_TextFault_getattr ?y_TextFault_place ?kc_76 ?l_74 ?ln_74 ?ls_74 ?z_14 ?y_NotOfBook_setattr ?y_NotOfBook_getattribute ?y_NotOfBook_getattr ?y_NotOfBook_signature ?kc_74 ?l_15 ?c_15 ?kp_15 ?l_14 ?c_14 ?kp_14 ?l_37 ?c_37 ?kp_37 ?l_62 ?c_62 ?kp_62 ?l_136 ?c_136 ?kp_136 ?l_51 ?c_51 ?kp_51 ?l_78 ?c_78 ?kp_78 ?l_3 ?c_3 ?kp_3 ?l_21 ?c_21 ?kp_21 ?l_60 ?c_60 ?kp_60 ?i_60 ?l_149 ?c_149 ?kp_149 ?l_1 ?c_1 ?kp_1 ?l_137 ?c_137 ?kp_137 ?l_162 ?c_162 ?kp_162 ?l_33 ?c_33 ?kp_33 ?l_68 ?c_68 ?kp_68 ?l_67 ?c_67 ?kp_67 ?l_65 ?c_65 ?kp_65 ?l_169 ?c_169 ?kp_169 ?l_31 ?c_31 ?kp_31 ?l_52 ?c_52 ?kp_52 ?l_17 ?c_17 ?kp_17 ?l_20 ?c_20 ?kp_20 ?l_135 ?c_135 ?kp_135 ?l_16 ?c_16 ?kp_16 ?l_134 ?c_134 ?kp_134 ?l_63 ?c_63 ?kp_63 ?l_36 ?c_36 ?kp_36 ?l_53 ?c_53 ?kp_53 ?l_64 ?c_64 ?kp_64 ?l_77 ?c_77 ?kp_77 ?l_32 ?c_32 ?kp_32 ?l_69 ?c_69 ?kp_69 ?l_79 ?c_79 ?kp_79 ?l_41 ?c_41 ?kp_41 ?i_41 ?l_42 ?c_42 ?kp_42 ?i_42 ?l_43 ?c_43 ?kp_43 ?i_43 ?l_44 ?c_44 ?kp_44 ?i_44 ?l_54 ?c_54 ?kp_54 ?l_19 ?c_19 ?kp_19 ?l_55 ?c_55 ?kp_55 ?l_2 ?c_2 ?kp_2 ?l_39 ?c_39 ?kp_39 ?l_80 ?c_80 ?kp_80 ?l_0 ?c_0 ?kp_0 ?l_66 ?c_66 ?kp_66 ?l_82 ?c_82 ?kp_82 ?l_70 ?c_70 ?kp_70 ?l_81 ?c_81 ?kp_81 ?l_18 ?c_18 ?kp_18 ?l_34 ?c_34 ?kp_34 ?l_50 ?c_50 ?kp_50 ?l_168 ?c_168 ?kp_168 ?l_161 ?c_161 ?kp_161 ?l_38 ?c_38 ?kp_38 ?l_56 ?c_56 ?kp_56 ?pg_157 ?hd_157 ?po_157 ?sa_157 ?mk_157 ?kc_157 ?no_Quire_signature ?no_Quire_size ?no_Quire_leaves ?no_Quire_gaps ?pg_150 ?hd_150 ?po_150 ?sa_150 ?mk_150 ?kc_150 ?no_Cursor_chars ?no_Cursor_place ?no_Cursor_end ?z_153 ?z_58 ?z_71 ?z_61 ?z_75 ?z_46 ?z_35 ?z_72 ?z_154 ?z_155 ?z_167 ?z_165 ?z_158 ?z_163 ?z_156 ?z_152 ?z_57 ?z_40 ?z_160 ?z_138 ?z_171 ?z_83 ?z_59 ?z_164 ?z_170 ?z_166 ?z_47 ?z_73 ?z_45 ?z_48 ?l_48 ?z_49 ?l_49 ?z_151 ?l_151 ?z_27 ?l_27 ?z_159 ?l_159 ?z_len ?z_range ?z_all ?z_any ?z_list ?z_dict ?z_str ?z_int ?z_enumerate ?z_max ?z_min ?ne_TextFault_74⟩
   case z_76 | z_74 | z_157 | z_150 | z_37 | z_62 | z_136 | z_51 | z_78 | z_3 | z_21 | z_60 | z_149 | z_1 | z_137 | z_162 | z_33 | z_68 | z_67 | z_65 | z_169 | z_31 | z_52 | z_17 | z_20 | z_135 | z_16 | z_134 | z_63 | z_36 | z_53 | z_64 | z_77 | z_32 | z_69 | z_79 | z_41 | z_42 | z_43 | z_44 | z_54 | z_19 | z_55 | z_2 | z_39 | z_80 | z_0 | z_66 | z_82 | z_70 | z_81 | z_18 | z_34 | z_50 | z_168 | z_161 | z_38 | z_56 | l_76 | ln_76 | ls_76 | z_15 | y_TextFault_setattr | y_TextFault_getattribute | y_TextFault_getattr | y_TextFault_place | kc_76 | l_74 | ln_74 | ls_74 | z_14 | y_NotOfBook_setattr | y_NotOfBook_getattribute | y_NotOfBook_getattr | y_NotOfBook_signature | kc_74 | l_15 | c_15 | kp_15 | l_14 | c_14 | kp_14 | l_37 | c_37 | kp_37 | l_62 | c_62 | kp_62 | l_136 | c_136 | kp_136 | l_51 | c_51 | kp_51 | l_78 | c_78 | kp_78 | l_3 | c_3 | kp_3 | l_21 | c_21 | kp_21 | l_60 | c_60 | kp_60 | i_60 | l_149 | c_149 | kp_149 | l_1 | c_1 | kp_1 | l_137 | c_137 | kp_137 | l_162 | c_162 | kp_162 | l_33 | c_33 | kp_33 | l_68 | c_68 | kp_68 | l_67 | c_67 | kp_67 | l_65 | c_65 | kp_65 | l_169 | c_169 | kp_169 | l_31 | c_31 | kp_31 | l_52 | c_52 | kp_52 | l_17 | c_17 | kp_17 | l_20 | c_20 | kp_20 | l_135 | c_135 | kp_135 | l_16 | c_16 | kp_16 | l_134 | c_134 | kp_134 | l_63 | c_63 | kp_63 | l_36 | c_36 | kp_36 | l_53 | c_53 | kp_53 | l_64 | c_64 | kp_64 | l_77 | c_77 | kp_77 | l_32 | c_32 | kp_32 | l_69 | c_69 | kp_69 | l_79 | c_79 | kp_79 | l_41 | c_41 | kp_41 | i_41 | l_42 | c_42 | kp_42 | i_42 | l_43 | c_43 | kp_43 | i_43 | l_44 | c_44 | kp_44 | i_44 | l_54 | c_54 | kp_54 | l_19 | c_19 | kp_19 | l_55 | c_55 | kp_55 | l_2 | c_2 | kp_2 | l_39 | c_39 | kp_39 | l_80 | c_80 | kp_80 | l_0 | c_0 | kp_0 | l_66 | c_66 | kp_66 | l_82 | c_82 | kp_82 | l_70 | c_70 | kp_70 | l_81 | c_81 | kp_81 | l_18 | c_18 | kp_18 | l_34 | c_34 | kp_34 | l_50 | c_50 | kp_50 | l_168 | c_168 | kp_168 | l_161 | c_161 | kp_161 | l_38 | c_38 | kp_38 | l_56 | c_56 | kp_56 | pg_157 | hd_157 | po_157 | sa_157 | mk_157 | kc_157 | no_Quire_signature | no_Quire_size | no_Quire_leaves | no_Quire_gaps | pg_150 | hd_150 | po_150 | sa_150 | mk_150 | kc_150 | no_Cursor_chars | no_Cursor_place | no_Cursor_end | z_153 | z_58 | z_71 | z_61 | z_75 | z_46 | z_35 | z_72 | z_154 | z_155 | z_167 | z_165 | z_158 | z_163 | z_156 | z_152 | z_57 | z_40 | z_160 | z_138 | z_171 | z_83 | z_59 | z_164 | z_170 | z_166 | z_47 | z_73 | z_45 | z_48 | l_48 | z_49 | l_49 | z_151 | l_151 | z_27 | l_27 | z_159 | l_159 | z_len | z_range | z_all | z_any | z_list | z_dict | z_str | z_int | z_enumerate | z_max | z_min | ne_TextFault_74 => first | k_is | rfl | decide
  obtain ⟨a, T⟩ := T
  have e0 := hmg.symm.trans T.m_161
  cases e0
  obtain ⟨_, _, _, _, _, _, _, _, _, e, _, _⟩ := T.u_161.ex
  exact ⟨a.d_161, fun s us hu => (by rw [e]; exact match us, hu with | [_, _], _ => .of_eq rfl), fun base kb nb => Q.hd_ok T⟩
 case S =>
  intro K H xs a hO hwi hask hx
  cases hx with
  | cons h1 h2 =>
   cases h2 with
   | cons h3 h4 =>
    cases h4
    cases h1 with
    | lst hs ha =>
     cases h3 with
     | lst hs2 ha2 =>
      have e := L2.ints_dw a.1 _ ha
      have e2 := L2.ints_dw a.2.1 _ ha2
      subst e e2
      have q : ((Codec.inLen 0 30000 a.1 && a.1.all (Codec.inInt 0 2147483647)) && ((Codec.inLen 0 30000 a.2.1 && a.2.1.all (Codec.inInt 0 2147483647)) && true)) = true := hwi
      rw [Bool.and_eq_true, Bool.and_eq_true, Bool.and_eq_true, Bool.and_eq_true] at q
      exact ⟨_, _, a.1, a.2.1, rfl, hs, hs2, (Codec.inNat_iff.mp q.1.1).2, (Codec.inNat_iff.mp q.2.1.1).2, q.1.2, q.2.1.2, fun H' p hp => .lst (L2.SqL.of hp) (L2.dw_ints _)⟩
