import PyProof.Rows.All
import Wide.All
import OpenK.AllK
import Wide.FinOn
import PyProof.EqAt
import PyProof.EqKinds
import PyProof.TupleCall
import KE.BitLaws
import Open.SpecLaws
import KE.OsHead
import KE.OsGo
import PyProof.StationsW
import PyProof.ExcInit
import PyProof.InstStoreFacts
import PyProof.InstLoad
import PyProof.ExcAttrAll.Exception
import PyProof.ExcBaseAll.Exception
import PyProof.EvalArms
import PySem.Challenge.RW_hushgates_s01_answers
set_option Elab.async false
set_option linter.all false
set_option maxRecDepth 100000
set_option maxHeartbeats 4000000
namespace L2
open PySem PySem.Spec PyProof.Rows
abbrev Key:=Sum Int Str
def keyIs:Key->Value->Bool
 |.inl k,v=>Value.isInt k v
 |.inr x,v=>Value.isStrOf x v
def keyH (w:World):Key->Int
 |.inl k=>hashInt k
 |.inr x=>hashStr w x
theorem keyIs_shape:∀{k:Key} {v:Value},keyIs k v=true->(∃i t,k=Sum.inl i/\v=Value.int i t)\/(∃x t,k=Sum.inr x/\v=Value.str x t)
 |.inl i,v,h=>by
  obtain ⟨t,e⟩:=Value.isInt_shape (k:=i) (v:=v) h
  exact .inl ⟨i,t,rfl,e⟩
 |.inr x,v,h=>by
  obtain ⟨t,e⟩:=Value.isStrOf_shape (x:=x) (v:=v) h
  exact .inr ⟨x,t,rfl,e⟩
theorem key_ll (a b:Int):decide ((Sum.inl a:Key)=Sum.inl b)=(a == b):=by
 by_cases e:a=b
 ·subst e;simp
 ·have h:¬(Sum.inl a:Key)=Sum.inl b:=fun q=>e (Sum.inl.inj q)
  rw [decide_eq_false h]
  exact (beq_eq_false_iff_ne.mpr e).symm
theorem key_rr (a b:Str):decide ((Sum.inr a:Key)=Sum.inr b)=decide (a=b):=by
 by_cases e:a=b
 ·subst e;simp
 ·have h:¬(Sum.inr a:Key)=Sum.inr b:=fun q=>e (Sum.inr.inj q)
  rw [decide_eq_false h,decide_eq_false e]
theorem key_lr (a:Int) (b:Str):decide ((Sum.inl a:Key)=Sum.inr b)=false:=decide_eq_false (fun q=>nomatch q)
theorem key_rl (a:Str) (b:Int):decide ((Sum.inr a:Key)=Sum.inl b)=false:=decide_eq_false (fun q=>nomatch q)
def mixKind (prog:Program) (w:World):PySem.KeyKind prog w Key where
 is:=keyIs
 hash:=keyH w
 inj:=fun v a b ha hb=>by
  rcases keyIs_shape ha with ⟨i,t,rfl,rfl⟩|⟨x,t,rfl,rfl⟩
  ·rcases keyIs_shape hb with ⟨j,u,rfl,e⟩|⟨y,u,rfl,e⟩
   ·injection e with e1 _;rw [e1]
   ·exact nomatch e
  ·rcases keyIs_shape hb with ⟨j,u,rfl,e⟩|⟨y,u,rfl,e⟩
   ·exact nomatch e
   ·injection e with e1 _;rw [e1]
 byValue:=fun k v h=>by
  rcases keyIs_shape h with ⟨i,t,rfl,rfl⟩|⟨x,t,rfl,rfl⟩ <;> rfl
 pyHash:=fun hv h=>by
  rcases keyIs_shape hv with ⟨i,t,rfl,rfl⟩|⟨x,t,rfl,rfl⟩
  ·exact wpAny_pyHash_int h
  ·exact wpAny_pyHash_str h
 eqBool:=fun hu hv h=>by
  rcases keyIs_shape hu with ⟨i,t,rfl,rfl⟩|⟨x,t,rfl,rfl⟩
  ·rcases keyIs_shape hv with ⟨j,u,rfl,rfl⟩|⟨y,u,rfl,rfl⟩
   ·rw [key_ll] at h;exact wpAny_eqBool_int h
   ·rw [key_lr] at h;exact SeqAt.EqAt.int_str i t y u _ _ _ _ h
  ·rcases keyIs_shape hv with ⟨j,u,rfl,rfl⟩|⟨y,u,rfl,rfl⟩
   ·rw [key_rl] at h;exact SeqAt.EqAt.str_int x t j u _ _ _ _ h
   ·rw [key_rr] at h;exact wpAny_eqBool_str h
 «strs»:=fun k x t v h=>by
  rcases keyIs_shape h with ⟨i,u,rfl,e⟩|⟨y,u,rfl,e⟩
  ·exact nomatch e
  ·injection e with e1 _
   subst e1
   cases v <;> rfl
inductive V where
 |non|bl (b:Bool)|int (i:Int)|str (x:Str)|byt (b:Array UInt8)|flt (b:UInt64)|ref (a:Addr)|ty (n:String)
 deriving DecidableEq
def RelV:V->Value->Prop
 |.non,u=>u=Value.none
 |.bl b,u=>u=Value.bool b
 |.int i,u=>∃t,u=Value.int i t
 |.str x,u=>∃t,u=Value.str x t
 |.byt b,u=>∃t,u=Value.bytes b t
 |.flt b,u=>∃t,u=Value.float b t
 |.ref a,u=>u=Value.ref a
 |.ty n,u=>u=Value.type n
abbrev Vals:List V->List Value->Prop:=Paired RelV
theorem Vals.length {xs:List V} {us:List Value} (r:Vals xs us):xs.length=us.length:=Paired.length r
theorem Vals.get:∀{xs:List V} {us:List Value} {i:Nat} {x:V},Vals xs us->xs[i]?=some x->∃u,us[i]?=some u/\RelV x u
 |_,_,_,_,.nil,e=>by simp at e
 |_,_,0,_,.cons r _,e=>by simp at e;subst e;exact ⟨_,rfl,r⟩
 |_,_,i+1,x,.cons _ t,e=>by
  obtain ⟨u,h1,h2⟩:=Vals.get (i:=i) (x:=x) t (by simpa using e)
  exact ⟨u,by simpa using h1,h2⟩
theorem Vals.set {x:V} {u:Value} (r:RelV x u):∀{xs:List V} {us:List Value} (i:Nat),Vals xs us->Vals (xs.set i x) (us.set i u)
 |_,_,_,.nil=>.nil
 |_,_,0,.cons _ t=>.cons r t
 |_,_,i+1,.cons q t=>.cons q (Vals.set r i t)
theorem Vals.append:∀{xs ys:List V} {us ws:List Value},Vals xs us->Vals ys ws->Vals (xs++ys) (us++ws)
 |_,_,_,_,.nil,s=>s
 |_,_,_,_,.cons r t,s=>.cons r (Vals.append t s)
theorem Vals.take:∀{xs:List V} {us:List Value} (n:Nat),Vals xs us->Vals (xs.take n) (us.take n)
 |_,_,0,_=>.nil
 |_,_,_+1,.nil=>.nil
 |_,_,n+1,.cons r t=>.cons r (Vals.take n t)
theorem Vals.drop:∀{xs:List V} {us:List Value} (n:Nat),Vals xs us->Vals (xs.drop n) (us.drop n)
 |_,_,0,r=>r
 |_,_,_+1,.nil=>.nil
 |_,_,n+1,.cons _ t=>Vals.drop n t
def RelO:Option V->Option Value->Prop
 |some v,some u=>RelV v u
 |none,none=>True
 |_,_=>False
def KV {κ:Type}:List (κ×V)->List (κ×Value)->Prop:=Paired fun (p:κ×V) (q:κ×Value)=>p.1=q.1/\RelV p.2 q.2
def kV:Key->V
 |.inl i=>.int i
 |.inr x=>.str x
inductive HO where
 |lst (xs:List V)
 |tup (xs:List V)
 |dK (kvs:List (Key×V))|dT (kvs:List (List Key×V))
 |set (S:Int->Bool) (n:Nat)
 |ins (C dx:Addr) (fs:List (Str×V))
 |own (x:Addr)
 |xd (fs:List (Str×V))
 |met (f x:Addr)
 |rng (lo hi:Int)
 |frz (o:Obj) (u:HO)
 |tbl (ps:Array Value)
 |ext (φ:Heap->Prop)
abbrev Hp:=Addr->Option HO
def upd (H:Hp) (a:Addr) (o:HO):Hp:=fun b=>if b=a then some o else H b
theorem upd_same {H:Hp} {a:Addr} {o:HO}:upd H a o a=some o:=by unfold upd;rw [if_pos rfl]
theorem upd_ne {H:Hp} {a b:Addr} {o:HO} (h:b≠a):upd H a o b=H b:=by unfold upd;rw [if_neg h]
theorem upd_upd {H:Hp} {a:Addr} {o u:HO}:upd (upd H a o) a u=upd H a u:=by
 funext b;unfold upd;split <;> rfl
theorem ne_of {H:Hp} {a b:Addr} {o u:HO} (h:H a=some o) (h':H b=some u) (d:o≠u):a≠b:=by
 intro e;subst e;rw [h] at h';exact d (Option.some.inj h')
theorem ne_of_none {H:Hp} {a b:Addr} {o:HO} (h:H a=some o) (h':H b=none):a≠b:=by
 intro e;subst e;rw [h] at h';cases h'
section
variable (P:Program) (w:World)
def ObjOk (H:Hp) (h:Heap) (a:Addr):HO->Prop
 |.lst xs=>xs.length<=sizeLine/\∃(its:List Value) (n:Nat),Vals xs its/\h.get? a=some {cls:=.type "list",data:=.seq its.toArray n}
 |.tup xs=>xs.length<=sizeLine/\∃its:List Value,Vals xs its/\IsTup h a its.toArray
 |.dK kvs=>kvs.length<=sizeLine/\(a == sysModules)=false/\∃vs,KV kvs vs/\h.DictOf (mixKind P w) a vs
 |.dT kvs=>kvs.length<=sizeLine/\(a == sysModules)=false/\∃xs:List (List Key×Addr×Value),
   Paired (fun (p:List Key×V) (q:List Key×Addr×Value)=>p.1=q.1/\H q.2.1=some (.tup (p.1.map kV))/\RelV p.2 q.2.2) kvs xs/\
   ∃o es ep,h.get? a=some o/\o.ExactDict/\o.data=.dict es ep/\es.toList=xs.map (entryOfKey (tupleKind (mixKind P w)))/\(xs.map (·.1)).Nodup
 |.set S n=>h.SetOf (intKind P w) a S n
 |.ins C dx fs=>H dx=some (.own a)/\fs.length<=1000/\dx≠a/\h.get? a=some (PySem.W.instObj C dx)/\
   ∃mA,h.Ns1 dx mA/\(∀f,RelO (fs.lookup f) (mA f))/\PySem.Within mA (fs.map (·.1))
 |.own _=>∃o,h.get? a=some o
 |.xd fs=>∃mA,h.Ns1 a mA/\∀f,RelO (fs.lookup f) (mA f)
 |.rng lo hi=>∃t u v,h.get? a=some {cls:=.type "range",data:=.fields #[.int lo t,.int hi u,.int 1 v]}
 |.frz o u=>h.get? a=some o/\ObjOk H h a u
 |.tbl ps=>h.get? a=some {cls:=.none,data:=.fields ps}
 |.met f x=>h.get? a=some (PySem.W.methodObj (.ref f) (.ref x))
 |.ext φ=>φ h/\(∃o,h.get? a=some o)/\∀h1 h2:Heap,φ h1->(∀o,h1.get? a=some o->h2.get? a=some o)->φ h2
def HOk (H:Hp) (h:Heap):Prop:=∀a o,H a=some o->ObjOk P w H h a o
end
section
variable {P:Program} {w:World} {H H':Hp} {h h':Heap} {a:Addr} {o:HO}
theorem ObjOk.lt (x:ObjOk P w H h a o):a < h.objs.size:=by
 cases o with
 |lst xs=>obtain ⟨_,_,_,_,e⟩:=x;exact Heap.lt_size e
 |tup xs=>obtain ⟨_,_,_,p⟩:=x;exact p.lt
 |dK kvs=>obtain ⟨_,_,_,_,o,_,_,e,_⟩:=x;exact Heap.lt_size e
 |dT kvs=>obtain ⟨_,_,_,_,o,_,_,e,_⟩:=x;exact Heap.lt_size e
 |set S n=>obtain ⟨o,_,_,_,e,_⟩:=x;exact Heap.lt_size e
 |ins C dx fs=>obtain ⟨_,_,_,e,_⟩:=x;exact Heap.lt_size e
 |own y=>obtain ⟨_,e⟩:=x;exact Heap.lt_size e
 |xd fs=>obtain ⟨_,⟨_,_,_,e,_⟩,_⟩:=x;exact Heap.lt_size e
 |rng lo hi=>obtain ⟨_,_,_,e⟩:=x;exact Heap.lt_size e
 |frz ob u=>obtain ⟨e,_⟩:=x;exact Heap.lt_size e
 |tbl ps=>exact Heap.lt_size (show h.get? a=some _ from x)
 |met f y=>exact Heap.lt_size (show h.get? a=some _ from x)
 |ext φ=>obtain ⟨_,⟨_,e⟩,_⟩:=x;exact Heap.lt_size e
theorem Paired.mapP {α β:Type} {F G:α->β->Prop}:∀{l₁:List α} {l₂:List β},Paired F l₁ l₂->(∀a b,F a b->G a b)->Paired G l₁ l₂
 |_,_,.nil,_=>.nil
 |_,_,.cons r t,f=>.cons (f _ _ r) (Paired.mapP t f)
theorem ObjOk.stay (x:ObjOk P w H h a o) (k:∀b u,(b=a\/H b=some (.own a))->h.get? b=some u->h'.get? b=some u)
  (ho:∀b,H b=some (.own a)->H' b=some (.own a)) (ht:∀b xs,H b=some (.tup xs)->H' b=some (.tup xs)):ObjOk P w H' h' a o:=by
 induction o with
 |lst xs=>obtain ⟨z,its,n,r,e⟩:=x;exact ⟨z,its,n,r,k _ _ (.inl rfl) e⟩
 |tup xs=>obtain ⟨z,its,r,ob,e,c⟩:=x;exact ⟨z,its,r,ob,k _ _ (.inl rfl) e,c⟩
 |dK kvs=>obtain ⟨z,y,vs,r,ob,es,ep,e,c⟩:=x;exact ⟨z,y,vs,r,ob,es,ep,k _ _ (.inl rfl) e,c⟩
 |dT kvs=>
  obtain ⟨z,y,xs,r,ob,es,ep,e,c⟩:=x
  exact ⟨z,y,xs,Paired.mapP r fun p q z=>⟨z.1,ht _ _ z.2.1,z.2.2⟩,ob,es,ep,k _ _ (.inl rfl) e,c⟩
 |set S n=>obtain ⟨ob,es,ep,t,e,c⟩:=x;exact ⟨ob,es,ep,t,k _ _ (.inl rfl) e,c⟩
 |ins C dx fs=>
  obtain ⟨d,z,ne,e,mA,⟨od,es,ep,e2,c⟩,r⟩:=x
  exact ⟨ho _ d,z,ne,k _ _ (.inl rfl) e,mA,⟨od,es,ep,k _ _ (.inr d) e2,c⟩,r⟩
 |own y=>obtain ⟨ob,e⟩:=x;exact ⟨ob,k _ _ (.inl rfl) e⟩
 |xd fs=>obtain ⟨mA,⟨od,es,ep,e,c⟩,r⟩:=x;exact ⟨mA,⟨od,es,ep,k _ _ (.inl rfl) e,c⟩,r⟩
 |rng lo hi=>obtain ⟨t,u,v,e⟩:=x;exact ⟨t,u,v,k _ _ (.inl rfl) e⟩
 |frz ob u ih=>obtain ⟨e,q⟩:=x;exact ⟨k _ _ (.inl rfl) e,ih q⟩
 |tbl ps=>
  have e:h.get? a=some {cls:=.none,data:=.fields ps}:=x
  show h'.get? a=some {cls:=.none,data:=.fields ps}
  exact k a _ (.inl rfl) e
 |met f y=>
  have e:h.get? a=some (PySem.W.methodObj (.ref f) (.ref y)):=x
  show h'.get? a=some (PySem.W.methodObj (.ref f) (.ref y))
  exact k a _ (.inl rfl) e
 |ext φ=>obtain ⟨p,⟨o,e⟩,st⟩:=x;exact ⟨st _ _ p fun o q=>k _ _ (.inl rfl) q,⟨o,k _ _ (.inl rfl) e⟩,st⟩
theorem HOk.lt (x:HOk P w H h) (e:H a=some o):a < h.objs.size:=(x a o e).lt
theorem HOk.fresh (x:HOk P w H h) (e:h.objs.size<=a):H a=none:=by
 cases q:H a with
 |none=>rfl
 |some u=>exact absurd (Nat.lt_of_lt_of_le (x.lt q) e) (Nat.lt_irrefl _)
theorem HOk.kept (x:HOk P w H h) (k:∀b u,h.get? b=some u->h'.get? b=some u):HOk P w H h':=fun a o e=>
 (x a o e).stay (fun b u _ q=>k b u q) (fun _ q=>q) fun _ _ q=>q
theorem HOk.laid (x:HOk P w H h) (k:∀b u,h.get? b=some u->h'.get? b=some u) (hp:h.objs.size<=a) (new:ObjOk P w (upd H a o) h' a o):HOk P w (upd H a o) h':=fun b u e=>by
 have hn:=x.fresh hp
 by_cases hb:b=a
 ·subst hb;rw [upd_same] at e;cases e;exact new
 ·rw [upd_ne hb] at e
  exact (x b u e).stay (fun c v _ q=>k c v q) (fun c q=>by rw [upd_ne (ne_of_none q hn)];exact q) fun c xs q=>by rw [upd_ne (ne_of_none q hn)];exact q
end
def Rd (H:Hp) (a:Addr) (u:HO):Prop:=H a=some u\/∃o,H a=some (.frz o u)
theorem Rd.ok {P:Program} {w:World} {H:Hp} {h:Heap} {a:Addr} {u:HO} (r:Rd H a u) (x:HOk P w H h):ObjOk P w H h a u:=by
 rcases r with r|⟨o,r⟩
 ·exact x a u r
 ·obtain ⟨_,q⟩:=x a _ r
  exact q
def Mut:Option HO->Prop
 |some (.lst _)=>True
 |some (.dK _)=>True
 |some (.dT _)=>True
 |some (.set _ _)=>True
 |some (.ins _ _ _)=>True
 |some (.ext _)=>True
 |_=>False
section
variable {P:Program} {w:World} {H:Hp} {h h':Heap} {x e:Addr} {o':HO}
theorem HOk.write (ok:HOk P w H h) (mu:Mut (H x)) (he:e=x\/H e=some (.own x)) (k:∀b u,b≠e->h.get? b=some u->h'.get? b=some u) (heo:∃u,h'.get? e=some u)
  (new:ObjOk P w (upd H x o') h' x o'):HOk P w (upd H x o') h':=fun b u q=>by
 have nown:∀c y,H c=some (.own y)->c≠x:=fun c y r z=>by subst z;rw [r] at mu;exact mu
 have ntup:∀c xs,H c=some (.tup xs)->c≠x:=fun c xs r z=>by subst z;rw [r] at mu;exact mu
 by_cases hb:b=x
 ·subst hb;rw [upd_same] at q;cases q;exact new
 ·rw [upd_ne hb] at q
  by_cases hbe:b=e
  ·have q':H b=some (.own x):=by
    rcases he with z|z
    ·exact absurd (hbe.trans z) hb
    ·rw [hbe];exact z
   rw [q] at q';cases q'
   obtain ⟨v,hv⟩:=heo
   exact ⟨v,by rw [hbe];exact hv⟩
  ·refine (ok b u q).stay (fun c v hc r=>k c v ?_ r) (fun c r=>by rw [upd_ne (nown c b r)];exact r) fun c xs r=>by rw [upd_ne (ntup c xs r)];exact r
   rcases hc with rfl|hc
   ·exact hbe
   ·rintro rfl
    rcases he with z|z
    ·exact nown c b hc z
    ·rw [hc] at z;cases z;exact hb rfl
end
structure Un (fs ex:List Addr) (H H':Hp) (h h':Heap):Prop where
 keep:∀b o,h.get? b=some o->H b=none->b∉fs->b∉ex->h'.get? b=some o
 slot:∀b o,h.get? b=some o->H b=none->b∈fs->b∉ex->∃sl,h'.get? b=some {o with slots:=sl}
 free:∀b o,h.get? b=some o->H b=none->b∉ex->H' b=none
 there:∀b o,h.get? b=some o->b∉ex->∃o',h'.get? b=some o'
 tups:∀b xs,H b=some (.tup xs)->H' b=some (.tup xs)
 frzs:∀b o u,H b=some (.frz o u)->H' b=some (.frz o u)
 tbls:∀b ps,H b=some (.tbl ps)->∃more,H' b=some (.tbl (ps++more))
section
variable {fs fs' ex ex':List Addr} {H H1 H2:Hp} {h h1 h2 h':Heap} {a x e:Addr} {o:HO}
theorem Un.any (u:Un fs ex H H1 h h1) {b:Addr} {ob:Obj} (q:h.get? b=some ob) (n:H b=none) (hx:b∉ex):∃sl,h1.get? b=some {ob with slots:=sl}:=by
 by_cases hb:b∈fs
 ·exact u.slot b ob q n hb hx
 ·exact ⟨ob.slots,u.keep b ob q n hb hx⟩
theorem Un.kept (k:∀b u,h.get? b=some u->h'.get? b=some u):Un fs ex H H h h':=
 ⟨fun b ob q _ _ _=>k b ob q,fun b ob q _ _ _=>⟨ob.slots,k b ob q⟩,fun _ _ _ n _=>n,fun b ob q _=>⟨ob,k b ob q⟩,fun _ _ q=>q,fun _ _ _ q=>q,fun _ ps q=>⟨#[],by rw [q];simp⟩⟩
theorem Un.refl:Un fs ex H H h h:=Un.kept fun _ _ q=>q
theorem Un.laid (k:∀b u,h.get? b=some u->h'.get? b=some u) (hp:h.objs.size<=a) (hn:H a=none):Un fs ex H (upd H a o) h h' where
 keep:=fun b u q _ _ _=>k b u q
 slot:=fun b u q _ _ _=>⟨u.slots,k b u q⟩
 free:=fun b u q n _=>by rw [upd_ne (Nat.ne_of_lt (Nat.lt_of_lt_of_le (Heap.lt_size q) hp))];exact n
 there:=fun b u q _=>⟨u,k b u q⟩
 tups:=fun b xs q=>by rw [upd_ne (ne_of_none q hn)];exact q
 frzs:=fun b u xs q=>by rw [upd_ne (ne_of_none q hn)];exact q
 tbls:=fun b ps q=>⟨#[],by rw [upd_ne (ne_of_none q hn),q];simp⟩
theorem Un.write (mu:Mut (H x)) (he:e=x\/H e=some (.own x)) (k:∀b u,b≠e->h.get? b=some u->h'.get? b=some u) (heo:∃u,h'.get? e=some u):Un fs ex H (upd H x o) h h':=by
 have hx:∀b,H b=none->b≠x:=fun b n z=>by subst z;rw [n] at mu;exact mu
 have hb:∀b,H b=none->b≠e:=fun b n z=>by
  subst z
  rcases he with r|r
  ·exact hx b n r
  ·rw [n] at r;cases r
 have hm:∀b u,H b=some u->¬Mut (some u)->b≠x:=fun b u q nm z=>by subst z;rw [q] at mu;exact nm mu
 refine ⟨fun b u q n _ _=>k b u (hb b n) q,fun b u q n _ _=>⟨u.slots,k b u (hb b n) q⟩,fun b u q n _=>by rw [upd_ne (hx b n)];exact n,fun b u q _=>?_,
  fun b xs q=>by rw [upd_ne (hm b _ q fun z=>z)];exact q,fun b u xs q=>by rw [upd_ne (hm b _ q fun z=>z)];exact q,fun b ps q=>⟨#[],by rw [upd_ne (hm b _ q fun z=>z),q];simp⟩⟩
 by_cases hbe:b=e
 ·subst hbe;exact heo
 ·exact ⟨u,k b u hbe q⟩
end
def trk (h:Heap) (H:Hp):List Addr:=(List.range h.objs.size).filter fun a=>(H a).isSome
def hidT (h:Heap) (H:Hp):Heap:=PySem.W.hideAll h (trk h H)
theorem hidT_size (h:Heap) (H:Hp):(hidT h H).objs.size=h.objs.size:=PySem.W.hideAll_size _ _
theorem hidT_get {h:Heap} {H:Hp} {b:Addr} {o:Obj} (e:h.get? b=some o) (n:H b=none):(hidT h H).get? b=some o:=
 PySem.W.hideAll_get _ e fun hm=>by
  have q:(H b).isSome=true:=(List.mem_filter.mp hm).2
  rw [n] at q;simp at q
theorem of_hidT {h:Heap} {H:Hp} {b:Addr} {o:Obj} (e:(hidT h H).get? b=some o):h.get? b=some o/\H b=none:=by
 have e':h.get? b=some o:=PySem.W.of_hideAll (trk h H) e
 refine ⟨e',?_⟩
 cases q:H b with
 |none=>rfl
 |some x=>
  have hm:b∈trk h H:=List.mem_filter.mpr ⟨List.mem_range.mpr (Heap.lt_size e'),by simp [q]⟩
  have z:(hidT h H).get? b=none:=PySem.W.hideAll_none (trk h H) hm
  rw [z] at e;cases e
structure Mod (K:W.Frag) (mg:Str->Option Value) (base:Heap):Prop where
 kin:K.In base
 glob:base.Ns mainGlobals mg
 blt:∃mb,base.Ns builtinsNs mb/\∀x:Str,x≠"__name__"->mb x=bootBuiltins x
 nolimit:base.NoLimit
structure Cx where
 prog:Program
 w:World
 K:W.Frag
 mg:Str->Option Value
 base:Heap
 A:Around
 N:List Str
 s_0:Shared
 H_0:Hp
 env:Env
 outer:List Env
 stack:List Env
 ex:List Addr
 fn:Str->Bool
 calm:Bool
 pn:List (Addr×Obj)
 xe:Value->Shared->Prop
def frs (l:List Env):List Addr:=l.filterMap (·.frame)
abbrev Cx.fs (X:Cx):List Addr:=frs X.outer
def Vis (sc:Scope) (x:Str):Prop:=sc.names.lookup x=some .local\/sc.names.lookup x=some .cell\/sc.names.lookup x=some .free
def Loc (sc:Scope) (x:Str):Prop:=sc.names.lookup x=some .local\/sc.names.lookup x=some .cell
def Look (env:Env) (h:Heap) (m:Str->Option Value) (x:Str) (u:Value):Prop:=
 (env.kindOf x=some .local/\m x=some u)\/((env.kindOf x=some .cell\/env.kindOf x=some .free)/\∃c,env.cells.lookup x=some c/\h.IsCell c (some u))
structure Cx.Ok (X:Cx):Prop where
 mod:Mod X.K X.mg X.base
 kind:X.env.scope.kind=.function
 glob:X.env.globals=mainGlobals
 blt:X.env.builtins=builtinsNs
 above:X.s_0.heap.objs.size<=X.env.locals
 inj:∀x y c,X.env.cells.lookup x=some c->X.env.cells.lookup y=some c->x=y
 has:∀x,(X.env.kindOf x=some .cell\/X.env.kindOf x=some .free)->∃c,X.env.cells.lookup x=some c
 cab:∀x c,X.fn x=true->X.env.cells.lookup x=some c->X.s_0.heap.objs.size<=c
 hd:X.calm=true->X.A.handled=none
 frames:X.A.frames=some X.stack
 stk:X.stack=X.outer\/(X.stack=X.env::X.outer/\X.env.frame=some X.env.locals)
 exf:∀b∈X.ex,b≠X.env.locals/\∀x c,X.env.cells.lookup x=some c->c≠b
 bs:∀b o,X.base.get? b=some o->X.s_0.heap.get? b=some o/\X.H_0 b=none
 bsz:X.base.objs.size<=X.s_0.heap.objs.size
 noex:∀b o,X.base.get? b=some o->b∉X.ex
 exfs:∀b∈X.ex,b∉X.fs
 funs:X.s_0.heap.FunFrames X.base X.outer
 frf:∀b∈X.fs,X.H_0 b=none
structure Inv (X:Cx) (pins:List (Addr×Obj)) (σ:List (Option V)) (H:Hp) (s:Shared):Prop where
 ok:X.Ok
 os:s.os=X.s_0.os
 bare:AllBare s.gens
 base:Un X.fs X.ex X.H_0 H X.s_0.heap s.heap
 loc:∃m,s.heap.Ns X.env.locals m/\∀(i:Nat) (x:Str) (v:V),X.N[i]?=some x->σ[i]?=some (some v)->Vis X.env.scope x->∃u,RelV v u/\Look X.env s.heap m x u
 cell:∀x c,X.env.cells.lookup x=some c->∃v,s.heap.IsCell c v
 free:H X.env.locals=none
 freeC:∀x c,X.env.cells.lookup x=some c->H c=none
 pin:∀p∈X.pn++pins,s.heap.get? p.1=some p.2/\H p.1=none/\p.1≠X.env.locals/\p.1∉X.fs/\∀v,p.2.data≠.cell v
 hok:HOk X.prog X.w H s.heap
 len:σ.length=X.N.length
section
variable {X:Cx} {pins:List (Addr×Obj)} {σ:List (Option V)} {H H':Hp} {s:Shared} {h':Heap}
theorem Cx.Ok.nofr (ok:X.Ok) {b:Addr} {o:Obj} (e:X.base.get? b=some o):b∉X.fs:=fun hb=>by
 have:=(ok.funs.mem hb).1
 rw [e] at this;cases this
theorem Inv.bs (I:Inv X pins σ H s):∀b o,X.base.get? b=some o->s.heap.get? b=some o/\H b=none:=fun b o e=>
 ⟨I.base.keep b o (I.ok.bs b o e).1 (I.ok.bs b o e).2 (I.ok.nofr e) (I.ok.noex b o e),I.base.free b o (I.ok.bs b o e).1 (I.ok.bs b o e).2 (I.ok.noex b o e)⟩
theorem Inv.bk (I:Inv X pins σ H s):∀b o,X.base.get? b=some o->s.heap.get? b=some o:=fun b o e=>(I.bs b o e).1
theorem Inv.mod (I:Inv X pins σ H s):Mod X.K X.mg X.base:=I.ok.mod
theorem Inv.kIn (I:Inv X pins σ H s):X.K.In s.heap:=I.ok.mod.kin.keeps I.bk
theorem Inv.fr (I:Inv X pins σ H s):∃m,Fr X.base X.env.locals s.heap m:=
 let ⟨m,hn,_⟩:=I.loc
 ⟨m,hn,I.bk,Nat.le_trans I.ok.bsz I.ok.above⟩
theorem Inv.lt (I:Inv X pins σ H s):X.env.locals < s.heap.objs.size:=let ⟨_,hn,_⟩:=I.loc;hn.lt
theorem Inv.sz (I:Inv X pins σ H s):X.s_0.heap.objs.size<=s.heap.objs.size:=Nat.le_trans I.ok.above (Nat.le_of_lt I.lt)
theorem Inv.nofs (I:Inv X pins σ H s) {a:Addr} (h:s.heap.objs.size<=a):a∉X.fs:=fun hb=>by
 obtain ⟨_,o,ho,_⟩:=I.ok.funs.mem hb
 exact absurd (Nat.lt_of_lt_of_le (Heap.lt_size ho) (Nat.le_trans I.sz h)) (Nat.lt_irrefl _)
theorem Inv.cne (I:Inv X pins σ H s):∀x c,X.env.cells.lookup x=some c->c≠X.env.locals:=fun x c e z=>by
 obtain ⟨v,o,ho,hd⟩:=I.cell x c e
 obtain ⟨m,⟨o',es,ep,ho',hd',_⟩,_⟩:=I.loc
 rw [z,ho'] at ho;cases ho;rw [hd'] at hd;cases hd
theorem Inv.funs (I:Inv X pins σ H s):s.heap.FunFrames X.base X.outer:=by
 have all:∀(l:List Env),(∀b∈frs l,b∈X.fs)->X.s_0.heap.FunFrames X.base l->s.heap.FunFrames X.base l:=by
  intro l
  induction l with
  |nil=>intro _ _;trivial
  |cons env r ih=>
   intro hs hl
   obtain ⟨hk,⟨L,o,hf,hn,ho,hd⟩,hr⟩:=hl
   have hL:L∈X.fs:=hs L (by unfold frs;rw [List.filterMap_cons,hf];exact List.mem_cons_self)
   obtain ⟨sl,e⟩:=I.base.slot L o ho (I.ok.frf L hL) hL fun z=>I.ok.exfs L z hL
   exact ⟨hk,⟨L,_,hf,hn,e,hd⟩,ih (fun b hb=>hs b (by unfold frs;rw [List.filterMap_cons,hf];exact List.mem_cons_of_mem _ hb)) hr⟩
 exact all X.outer (fun _ hb=>hb) I.ok.funs
theorem Inv.stack (I:Inv X pins σ H s):s.heap.FunFrames X.base X.stack:=by
 rcases I.ok.stk with e|⟨e,hf⟩
 ·rw [e];exact I.funs
 ·rw [e]
  obtain ⟨m,hn,_⟩:=I.loc
  refine .cons (by rw [I.ok.kind];decide) hf hn ?_ I.funs
  exact Heap.get?_none_of_le (Nat.le_trans I.ok.bsz I.ok.above)
theorem Inv.stkSub (I:Inv X pins σ H s):∀b∈frs X.stack,b∈X.env.locals::X.fs:=fun b hb=>by
 rcases I.ok.stk with e|⟨e,hf⟩
 ·rw [e] at hb;exact List.mem_cons_of_mem _ hb
 ·rw [e] at hb
  unfold frs at hb
  rw [List.filterMap_cons,hf] at hb
  exact hb
theorem Inv.stkFree (I:Inv X pins σ H s):∀b∈frs X.stack,H b=none:=fun b hb=>by
 rcases List.mem_cons.mp (I.stkSub b hb) with e|hb
 ·rw [e];exact I.free
 ·obtain ⟨_,o,ho,_⟩:=I.ok.funs.mem hb
  exact I.base.free b o ho (I.ok.frf b hb) fun z=>I.ok.exfs b z hb
theorem Inv.step {g':Array GenState} {t':Nat} {d':Drawn} {ch:List Addr} (I:Inv X pins σ H s)
  (hch:∀b∈ch,(b∈X.ex\/X.s_0.heap.objs.size<=b)/\b≠X.env.locals/\(∀x c,X.env.cells.lookup x=some c->c≠b)/\∀p∈X.pn++pins,p.1≠b)
  (keep:∀b o,b≠X.env.locals->b∉X.fs->b∉ch->s.heap.get? b=some o->H b=none->h'.get? b=some o)
  (slot:∀b o,b≠X.env.locals->b∈X.fs->b∉ch->s.heap.get? b=some o->H b=none->∃sl,h'.get? b=some {o with slots:=sl}) (free:∀b o,b∉ch->s.heap.get? b=some o->H b=none->H' b=none)
  (there:∀b o,b∉ch->s.heap.get? b=some o->∃o',h'.get? b=some o')
  (tups:∀b xs,H b=some (.tup xs)->H' b=some (.tup xs)) (frzs:∀b o u,H b=some (.frz o u)->H' b=some (.frz o u)) (tbls:∀b ps,H b=some (.tbl ps)->∃more,H' b=some (.tbl (ps++more)))
  (ns:∀m,s.heap.Ns X.env.locals m->h'.Ns X.env.locals m) (hok:HOk X.prog X.w H' h') (hg:AllBare g'):
  Inv X pins σ H' {s with heap:=h',gens:=g',drawn:=d',toks:=t'}:=by
 have neL:∀b o,X.s_0.heap.get? b=some o->b≠X.env.locals:=fun b o e=>Nat.ne_of_lt (Nat.lt_of_lt_of_le (Heap.lt_size e) I.ok.above)
 have neC:∀b o,X.s_0.heap.get? b=some o->b∉X.ex->b∉ch:=fun b o e hx hb=>by
  rcases (hch b hb).1 with z|z
  ·exact hx z
  ·exact absurd (Nat.lt_of_lt_of_le (Heap.lt_size e) z) (Nat.lt_irrefl _)
 have cellK:∀x c,X.env.cells.lookup x=some c->∀v,s.heap.IsCell c v->h'.IsCell c v:=fun x c e v ⟨o,ho,hd⟩=>by
  have nch:c∉ch:=fun z=>(hch c z).2.2.1 x c e rfl
  by_cases hc:c∈X.fs
  ·obtain ⟨sl,q⟩:=slot c o (I.cne x c e) hc nch ho (I.freeC x c e)
   exact ⟨_,q,hd⟩
  ·exact ⟨o,keep c o (I.cne x c e) hc nch ho (I.freeC x c e),hd⟩
 refine ⟨I.ok,I.os,hg,⟨fun b o e n hb hx=>?_,fun b o e n hb hx=>?_,fun b o e n hx=>?_,fun b o e hx=>?_,fun b xs e=>tups b xs (I.base.tups b xs e),fun b o xs e=>frzs b o xs (I.base.frzs b o xs e),fun b ps e=>?_⟩,?_,fun x c e=>?_,?_,fun x c e=>?_,fun p hp=>?_,hok,I.len⟩
 ·exact keep b o (neL b o e) hb (neC b o e hx) (I.base.keep b o e n hb hx) (I.base.free b o e n hx)
 ·obtain ⟨sl,e1⟩:=I.base.slot b o e n hb hx
  obtain ⟨sl',e2⟩:=slot b _ (neL b o e) hb (neC b o e hx) e1 (I.base.free b o e n hx)
  exact ⟨sl',e2⟩
 ·obtain ⟨o',e1⟩:=I.base.there b o e hx
  exact free b o' (neC b o e hx) e1 (I.base.free b o e n hx)
 ·obtain ⟨o',e1⟩:=I.base.there b o e hx
  exact there b o' (neC b o e hx) e1
 ·obtain ⟨m1,e1⟩:=I.base.tbls b ps e
  obtain ⟨m2,e2⟩:=tbls b _ e1
  exact ⟨m1++m2,by rw [e2,Array.append_assoc]⟩
 ·obtain ⟨m,hn,hl⟩:=I.loc
  refine ⟨m,ns m hn,fun i x v e1 e2 e3=>?_⟩
  obtain ⟨u,r,l⟩:=hl i x v e1 e2 e3
  refine ⟨u,r,?_⟩
  rcases l with l|⟨k,c,e,z⟩
  ·exact .inl l
  ·exact .inr ⟨k,c,e,cellK x c e _ z⟩
 ·obtain ⟨v,z⟩:=I.cell x c e
  exact ⟨v,cellK x c e v z⟩
 ·obtain ⟨m,⟨o,_,_,ho,_⟩,_⟩:=I.loc
  exact free _ o (fun z=>(hch _ z).2.1 rfl) ho I.free
 ·obtain ⟨v,o,ho,hd⟩:=I.cell x c e
  exact free c o (fun z=>(hch c z).2.2.1 x c e rfl) ho (I.freeC x c e)
 ·obtain ⟨e,n,ne,nf,d⟩:=I.pin p hp
  have nch:p.1∉ch:=fun z=>(hch p.1 z).2.2.2 p hp rfl
  exact ⟨keep p.1 p.2 ne nf nch e n,free p.1 p.2 nch e n,ne,nf,d⟩
theorem Inv.un {t':Nat} (I:Inv X pins σ H s) (u:Un X.fs [] H H' s.heap h') (hok:HOk X.prog X.w H' h'):Inv X pins σ H' {s with heap:=h',toks:=t'}:=by
 obtain ⟨m,⟨o,es,ep,ho,r⟩,_⟩:=id I.loc
 obtain ⟨sl,hL⟩:=u.any ho I.free (by simp)
 exact I.step (g':=s.gens) (d':=s.drawn) (ch:=[]) (fun _ z=>nomatch z) (fun b o _ hb _ e n=>u.keep b o e n hb (by simp)) (fun b o _ hb _ e n=>u.slot b o e n hb (by simp)) (fun b o _ e n=>u.free b o e n (by simp)) (fun b o _ e=>u.there b o e (by simp)) u.tups u.frzs u.tbls (fun m' hm=>by
  obtain ⟨o',es',ep',ho',r'⟩:=hm
  rw [ho] at ho';cases ho'
  exact ⟨_,es',ep',hL,r'⟩) hok I.bare
theorem Inv.call {g':Array GenState} {t':Nat} {d':Drawn} {ch:List Addr} (I:Inv X pins σ H s) (u:Un (frs X.stack) ch H H' s.heap h') (hok:HOk X.prog X.w H' h') (hg:AllBare g')
  (hch:∀b∈ch,(b∈X.ex\/X.s_0.heap.objs.size<=b)/\b≠X.env.locals/\(∀x c,X.env.cells.lookup x=some c->c≠b)/\∀p∈X.pn++pins,p.1≠b):
  Inv X pins σ H' {s with heap:=h',gens:=g',drawn:=d',toks:=t'}:=by
 obtain ⟨m,⟨o,es,ep,ho,r⟩,_⟩:=id I.loc
 obtain ⟨sl,hL⟩:=u.any ho I.free fun z=>(hch _ z).2.1 rfl
 exact I.step (ch:=ch) hch (fun b o hL hb hc e n=>u.keep b o e n (fun z=>(List.mem_cons.mp (I.stkSub b z)).elim hL hb) hc) (fun b o _ _ hc e n=>u.any e n hc) (fun b o hc e n=>u.free b o e n hc) (fun b o hc e=>u.there b o e hc) u.tups u.frzs u.tbls (fun m' hm=>by
  obtain ⟨o',es',ep',ho',r'⟩:=hm
  rw [ho] at ho';cases ho'
  exact ⟨_,es',ep',hL,r'⟩) hok hg
theorem Inv.turned {t':Nat} {it:Addr} (I:Inv X pins σ H s) (k:∀b o,b≠it->s.heap.get? b=some o->h'.get? b=some o) (hn:H it=none) (hL:it≠X.env.locals)
  (h1:it∈X.ex\/X.s_0.heap.objs.size<=it) (h2:∀x c,X.env.cells.lookup x=some c->c≠it) (h3:∀p∈X.pn++pins,p.1≠it):Inv X pins σ H {s with heap:=h',toks:=t'}:=by
 have nit:∀b u,H b=some u->b≠it:=fun b u e z=>by rw [z,hn] at e;cases e
 refine I.step (g':=s.gens) (d':=s.drawn) (ch:=[it]) (fun b hb=>?_) (fun b o _ _ hc e _=>k b o (fun z=>hc (by simp [z])) e) (fun b o _ _ hc e _=>⟨o.slots,k b o (fun z=>hc (by simp [z])) e⟩) (fun _ _ _ _ n=>n)
  (fun b o hc e=>⟨o,k b o (fun z=>hc (by simp [z])) e⟩) (fun _ _ e=>e) (fun _ _ _ e=>e) (fun b ps e=>⟨#[],by rw [e];simp⟩) (fun m hm=>?_) (fun b u e=>?_) I.bare
 ·have e:b=it:=by simpa using hb
  subst e
  exact ⟨h1,hL,h2,h3⟩
 ·obtain ⟨o,es,ep,ho,r⟩:=hm
  exact ⟨o,es,ep,k _ o (Ne.symm hL) ho,r⟩
 ·refine (I.hok b u e).stay (fun c v hc q=>k c v ?_ q) (fun _ q=>q) fun _ _ q=>q
  rcases hc with z|z
  ·rw [z];exact nit b u e
  ·exact nit c _ z
theorem Inv.tok (I:Inv X pins σ H s) (t:Nat):Inv X pins σ H {s with toks:=t}:=I.un (h':=s.heap) (t':=t) Un.refl I.hok
theorem Inv.kept {t':Nat} (I:Inv X pins σ H s) (k:∀b u,s.heap.get? b=some u->h'.get? b=some u):Inv X pins σ H {s with heap:=h',toks:=t'}:=I.un (Un.kept k) (I.hok.kept k)
theorem Inv.laid {a:Addr} {o:HO} {t':Nat} (I:Inv X pins σ H s) (k:∀b u,s.heap.get? b=some u->h'.get? b=some u) (hp:s.heap.objs.size<=a) (new:ObjOk X.prog X.w (upd H a o) h' a o):
  Inv X pins σ (upd H a o) {s with heap:=h',toks:=t'}:=I.un (Un.laid k hp (I.hok.fresh hp)) (I.hok.laid k hp new)
theorem Inv.write {x e:Addr} {o:HO} {t':Nat} (I:Inv X pins σ H s) (mu:Mut (H x)) (he:e=x\/H e=some (.own x)) (k:∀b u,b≠e->s.heap.get? b=some u->h'.get? b=some u) (heo:∃u,h'.get? e=some u)
  (new:ObjOk X.prog X.w (upd H x o) h' x o):Inv X pins σ (upd H x o) {s with heap:=h',toks:=t'}:=I.un (Un.write mu he k heo) (I.hok.write mu he k heo new)
theorem Inv.weak {σ':List (Option V)} (I:Inv X pins σ H s) (hl:σ'.length=σ.length) (w:∀(i:Nat) v,σ'[i]?=some (some v)->σ[i]?=some (some v)):Inv X pins σ' H s:=
 ⟨I.ok,I.os,I.bare,I.base,let ⟨m,hn,hl'⟩:=I.loc;⟨m,hn,fun i x v e1 e2 e3=>hl' i x v e1 (w i v e2) e3⟩,I.cell,I.free,I.freeC,I.pin,I.hok,hl.trans I.len⟩
theorem Inv.pins_of {pins':List (Addr×Obj)} (I:Inv X pins σ H s) (h:∀p∈pins',s.heap.get? p.1=some p.2/\H p.1=none/\p.1≠X.env.locals/\p.1∉X.fs/\∀v,p.2.data≠.cell v):Inv X pins' σ H s:=
 ⟨I.ok,I.os,I.bare,I.base,I.loc,I.cell,I.free,I.freeC,fun p hp=>(List.mem_append.mp hp).elim (fun z=>I.pin p (List.mem_append_left _ z)) (h p),I.hok,I.len⟩
theorem nodup_ix {N:List Str} (hN:N.Nodup) {i j:Nat} {x:Str} (a:N[i]?=some x) (b:N[j]?=some x):i=j:=by
 obtain ⟨h1,e1⟩:=List.getElem?_eq_some_iff.mp a
 obtain ⟨h2,e2⟩:=List.getElem?_eq_some_iff.mp b
 exact (List.getElem_inj hN).mp (e1.trans e2.symm)
theorem store_ok2 {M:Model} {A:Around} {E:Value->Shared->Prop} {i:Nat} {x:Str} {v:V} {u:Value} {Q:Unit->Shared->Prop} (I:Inv X pins σ H s) (hN:X.N.Nodup) (hi:X.N[i]?=some x) (hx:Loc X.env.scope x) (r:RelV v u)
  (h:∀s',Inv X pins (σ.set i (some v)) H s'->(∃a,Heap.SameBut a s.heap s'.heap/\(a=X.env.locals\/X.env.cells.lookup x=some a))->Q () s') (hf:X.fn x=true\/X.env.scope.names.lookup x=some .local:=by first|exact .inl rfl|exact .inr rfl|assumption):wpAny M A (storeName X.env x u) Q E s:=by
 obtain ⟨m,hn,hl⟩:=id I.loc
 have hcls:(X.env.scope.kind == .class||(X.env.scope.kind == .module&&X.env.locals != X.env.globals))=false:=by rw [I.ok.kind];rfl
 have hiσ:i < σ.length:=by rw [I.len];exact (List.getElem?_eq_some_iff.mp hi).1
 have cne:=I.cne
 have tracked:∀{a:Addr} {h':Heap},(∃o,s.heap.get? a=some o/\H a=none)->Heap.SameBut a s.heap h'->HOk X.prog X.w H h':=fun {a h'} ha hs b ob e=>by
  obtain ⟨_,_,hfree⟩:=ha
  refine (I.hok b ob e).stay (fun c w' hc q=>(hs.2 c ?_).trans q) (fun _ q=>q) fun _ _ q=>q
  rintro rfl
  rcases hc with rfl|hc
  ·rw [hfree] at e;cases e
  ·rw [hfree] at hc;cases hc
 rcases hx with hk|hk
 ·refine wpAny_storeName_local hk hn (fun h' hn' hs=>?_) hcls
  obtain ⟨oL,_,_,hoL,_⟩:=id hn
  refine h _ ⟨I.ok,I.os,I.bare,⟨fun b o e n hb hx=>?_,fun b o e n hb hx=>?_,I.base.free,fun b o e hx=>?_,I.base.tups,I.base.frzs,I.base.tbls⟩,⟨_,hn',fun j y v' e1 e2 e3=>?_⟩,fun y c e=>?_,I.free,I.freeC,fun p hp=>?_,tracked ⟨oL,hoL,I.free⟩ hs,by simpa using I.len⟩ ⟨_,hs,.inl rfl⟩
  ·exact (hs.2 b (Nat.ne_of_lt (Nat.lt_of_lt_of_le (Heap.lt_size e) I.ok.above))).trans (I.base.keep b o e n hb hx)
  ·obtain ⟨sl,e1⟩:=I.base.slot b o e n hb hx
   exact ⟨sl,(hs.2 b (Nat.ne_of_lt (Nat.lt_of_lt_of_le (Heap.lt_size e) I.ok.above))).trans e1⟩
  ·obtain ⟨o',e1⟩:=I.base.there b o e hx
   exact ⟨o',(hs.2 b (Nat.ne_of_lt (Nat.lt_of_lt_of_le (Heap.lt_size e) I.ok.above))).trans e1⟩
  ·by_cases hj:j=i
   ·subst hj
    rw [hi] at e1;cases e1
    rw [List.getElem?_set_self hiσ] at e2
    cases e2
    exact ⟨u,r,.inl ⟨hk,by simp⟩⟩
   ·rw [List.getElem?_set_ne (Ne.symm hj)] at e2
    obtain ⟨u',r',q⟩:=hl j y v' e1 e2 e3
    refine ⟨u',r',?_⟩
    rcases q with ⟨k,e⟩|⟨k,c,e,z⟩
    ·refine .inl ⟨k,?_⟩
     have:y≠x:=fun e=>hj (nodup_ix hN e1 (e ▸ hi))
     simp [this,e]
    ·exact .inr ⟨k,c,e,z.sameBut hs (cne y c e)⟩
  ·obtain ⟨w',z⟩:=I.cell y c e
   exact ⟨w',z.sameBut hs (cne y c e)⟩
  ·obtain ⟨e,n,ne,nf,d⟩:=I.pin p hp
   exact ⟨(hs.2 p.1 ne).trans e,n,ne,nf,d⟩
 ·have hfn:X.fn x=true:=by
   rcases hf with z|z
   ·exact z
   ·rw [z] at hk;cases hk
  obtain ⟨c,hc⟩:=I.ok.has x (.inl hk)
  obtain ⟨w',z⟩:=I.cell x c hc
  refine wpAny_storeName_cell I.ok.kind hk hc z (fun h' hc' hs=>?_)
  obtain ⟨oc,hoc,hocd⟩:=id z
  refine h {s with heap:=h'} ⟨I.ok,I.os,I.bare,⟨fun b o e n hb hx=>?_,fun b o e n hb hx=>?_,I.base.free,fun b o e hx=>?_,I.base.tups,I.base.frzs,I.base.tbls⟩,⟨m,hn.sameBut hs (Ne.symm (cne x c hc)),fun j y v' e1 e2 e3=>?_⟩,fun y c' e=>?_,I.free,I.freeC,fun p hp=>?_,tracked ⟨oc,hoc,I.freeC x c hc⟩ hs,by simpa using I.len⟩ ⟨c,hs,.inr hc⟩
  ·exact (hs.2 b (Nat.ne_of_lt (Nat.lt_of_lt_of_le (Heap.lt_size e) (I.ok.cab x c hfn hc)))).trans (I.base.keep b o e n hb hx)
  ·obtain ⟨sl,e1⟩:=I.base.slot b o e n hb hx
   exact ⟨sl,(hs.2 b (Nat.ne_of_lt (Nat.lt_of_lt_of_le (Heap.lt_size e) (I.ok.cab x c hfn hc)))).trans e1⟩
  ·obtain ⟨o',e1⟩:=I.base.there b o e hx
   exact ⟨o',(hs.2 b (Nat.ne_of_lt (Nat.lt_of_lt_of_le (Heap.lt_size e) (I.ok.cab x c hfn hc)))).trans e1⟩
  ·by_cases hj:j=i
   ·subst hj
    rw [hi] at e1;cases e1
    rw [List.getElem?_set_self hiσ] at e2
    cases e2
    exact ⟨u,r,.inr ⟨.inl hk,c,hc,hc'⟩⟩
   ·rw [List.getElem?_set_ne (Ne.symm hj)] at e2
    obtain ⟨u',r',q⟩:=hl j y v' e1 e2 e3
    refine ⟨u',r',?_⟩
    rcases q with q|⟨k,c',e,z'⟩
    ·exact .inl q
    ·refine .inr ⟨k,c',e,z'.sameBut hs ?_⟩
     rintro rfl
     exact hj (nodup_ix hN e1 (I.ok.inj _ _ _ e hc ▸ hi))
  ·by_cases hcc:c'=c
   ·subst hcc;exact ⟨_,hc'⟩
   ·obtain ⟨w2,z2⟩:=I.cell y c' e
    exact ⟨w2,z2.sameBut hs hcc⟩
  ·obtain ⟨e,n,ne,nf,d⟩:=I.pin p hp
   refine ⟨(hs.2 p.1 ?_).trans e,n,ne,nf,d⟩
   intro q
   rw [q,hoc] at e
   have q':oc=p.2:=Option.some.inj e
   exact d w' (by rw [<-q'];exact hocd)
theorem store_ok {M:Model} {A:Around} {E:Value->Shared->Prop} {i:Nat} {x:Str} {v:V} {u:Value} {Q:Unit->Shared->Prop} (I:Inv X pins σ H s) (hN:X.N.Nodup) (hi:X.N[i]?=some x) (hx:Loc X.env.scope x) (r:RelV v u)
  (h:∀s',Inv X pins (σ.set i (some v)) H s'->Q () s') (hf:X.fn x=true\/X.env.scope.names.lookup x=some .local:=by first|exact .inl rfl|exact .inr rfl|assumption):wpAny M A (storeName X.env x u) Q E s:=
 store_ok2 I hN hi hx r (fun s' I' _=>h s' I') hf
theorem Inv.call' {s':Shared} {ch:List Addr} (I:Inv X pins σ H s) (ho:s'.os=s.os) (u:Un (frs X.stack) ch H H' s.heap s'.heap) (hok:HOk X.prog X.w H' s'.heap) (hg:AllBare s'.gens)
  (hch:∀b∈ch,(b∈X.ex\/X.s_0.heap.objs.size<=b)/\b≠X.env.locals/\(∀x c,X.env.cells.lookup x=some c->c≠b)/\∀p∈X.pn++pins,p.1≠b):Inv X pins σ H' s':=by
 obtain ⟨h',g',d',t',o'⟩:=s'
 have e:o'=s.os:=ho
 subst e
 exact I.call (g':=g') (t':=t') (d':=d') u hok hg hch
end
abbrev XK:=Value->Option Addr->Hp->Prop
abbrev St:=List (Option V)
abbrev VK:=V->Hp->Prop
abbrev TE:=St->Hp->VK->Prop
abbrev TT:=St->Hp->(Bool->Hp->Prop)->Prop
abbrev TA:=St->Hp->(List V->Hp->Prop)->Prop
structure Ends where
 nx:St->Hp->Prop
 rt:VK
 bk:St->Hp->Prop:=fun _ _=>False
 ct:St->Hp->Prop:=fun _ _=>False
abbrev TS:=Ends->St->Hp->Prop
def EP (X:Cx) (pins:List (Addr×Obj)) (σ:St) (Q:VK) (u:Value) (s':Shared):Prop:=∃v H',Inv X pins σ H' s'/\RelV v u/\Q v H'
def TP (X:Cx) (pins:List (Addr×Obj)) (σ:St) (Q:Bool->Hp->Prop) (b:Bool) (s':Shared):Prop:=∃H',Inv X pins σ H' s'/\Q b H'
def AP (X:Cx) (pins:List (Addr×Obj)) (σ:St) (Q:List V->Hp->Prop) (us:List Value) (s':Shared):Prop:=∃vs H',Inv X pins σ H' s'/\Vals vs us/\Q vs H'
def SP (X:Cx) (pins:List (Addr×Obj)) (D:Ends) (f:Flow) (s':Shared):Prop:=
 match f with
 |.next=>∃σ' H',Inv X pins σ' H' s'/\D.nx σ' H'
 |.brk=>∃σ' H',Inv X pins σ' H' s'/\D.bk σ' H'
 |.cont=>∃σ' H',Inv X pins σ' H' s'/\D.ct σ' H'
 |.ret u=>∃v σ' H',Inv X pins σ' H' s'/\RelV v u/\D.rt v H'
def PE (X:Cx) (e:Expr) (t:TE):Prop:=
 ∀(pins:List (Addr×Obj)) (s:Shared) (σ:St) (H:Hp) (Q:VK),Inv X pins σ H s->t σ H Q->wpAny (model X.prog X.w) X.A (eval e X.env) (EP X pins σ Q) X.xe s
def PT (X:Cx) (e:Expr) (t:TT):Prop:=
 ∀(pins:List (Addr×Obj)) (s:Shared) (σ:St) (H:Hp) (Q:Bool->Hp->Prop),Inv X pins σ H s->t σ H Q->wpAny (model X.prog X.w) X.A (isTrue e X.env (eval e X.env)) (TP X pins σ Q) X.xe s
def PW (X:Cx) (e:Expr) (t:TT):Prop:=
 ∀(whole:Sem Value) (pins:List (Addr×Obj)) (s:Shared) (σ:St) (H:Hp) (Q:Bool->Hp->Prop),Inv X pins σ H s->t σ H Q->wpAny (model X.prog X.w) X.A (isTrue e X.env whole) (TP X pins σ Q) X.xe s
theorem PW.pt {X:Cx} {e:Expr} {t:TT} (h:PW X e t):PT X e t:=h _
def PA (X:Cx) (es:List Expr) (t:TA):Prop:=
 ∀(pos:Pos) (pins:List (Addr×Obj)) (s:Shared) (σ:St) (H:Hp) (Q:List V->Hp->Prop),Inv X pins σ H s->t σ H Q->wpAny (model X.prog X.w) X.A (spliced (backTo pos (starEach es X.env))) (AP X pins σ Q) X.xe s
def PS (X:Cx) (st:Stmt) (t:TS):Prop:=
 ∀(pins:List (Addr×Obj)) (s:Shared) (σ:St) (H:Hp) (D:Ends),Inv X pins σ H s->t D σ H->wpAny (model X.prog X.w) X.A (exec st X.env) (SP X pins D) X.xe s
def PSs (X:Cx) (st:List Stmt) (t:TS):Prop:=
 ∀(pins:List (Addr×Obj)) (s:Shared) (σ:St) (H:Hp) (D:Ends),Inv X pins σ H s->t D σ H->wpAny (model X.prog X.w) X.A (execs st X.env) (SP X pins D) X.xe s
theorem thn {α:Type} {t:Sem α} {Q Q':α->Shared->Prop} {M:Model} {A:Around} {E:Value->Shared->Prop} {s:Shared} (h:wpAny M A t Q E s) (hQ:∀a s,Q a s->Q' a s):wpAny M A t Q' E s:=wpAny_mono h hQ fun _ _ x=>x
section
variable {X:Cx}
theorem bin {a b:Expr} {ta tb:TE} (ha:PE X a ta) (hb:PE X b tb) {pins:List (Addr×Obj)} {s:Shared} {σ:St} {H:Hp} {R:V->V->Hp->Prop} (I:Inv X pins σ H s) (h:ta σ H fun x H1=>tb σ H1 fun y H2=>R x y H2)
  {α:Type} {Q:α->Shared->Prop} {f:Value->Value->Sem α}
  (hf:∀v u s2 x y H2,Inv X pins σ H2 s2->RelV x v->RelV y u->R x y H2->wpAny (model X.prog X.w) X.A (f v u) Q X.xe s2):
  wpAny (model X.prog X.w) X.A (eval a X.env) (fun v s₁=>wpAny (model X.prog X.w) X.A (eval b X.env) (fun u s₂=>wpAny (model X.prog X.w) X.A (f v u) Q X.xe s₂) X.xe s₁) X.xe s:=by
 refine thn (ha pins s σ H _ I h) fun v s1 ⟨x,H1,I1,r1,q1⟩=>?_
 refine thn (hb pins s1 σ H1 _ I1 q1) fun u s2 ⟨y,H2,I2,r2,q2⟩=>?_
 exact hf v u s2 x y H2 I2 r1 r2 q2
def tVar (i:Nat):TE:=fun σ H Q=>∃v,σ[i]?=some (some v)/\Q v H
def tC (v:V):TE:=fun _ H Q=>Q v H
theorem pe_var {i:Nat} {x:Str} {pos:Pos} (hN:X.N[i]?=some x) (hv:Vis X.env.scope x) (hd:(x == ("__debug__":Str))=false:=by decide) (hcd:(x == ("__classdict__":Str))=false:=by decide):PE X (.Name x pos) (tVar i):=by
 intro pins s σ H Q I h
 obtain ⟨v,e,h⟩:=h
 obtain ⟨m,hn,hl⟩:=I.loc
 obtain ⟨u,r,l⟩:=hl i x v hN e hv
 have fin:EP X pins σ Q u s:=⟨v,H,I,r,h⟩
 rcases l with ⟨hk,hm⟩|⟨hk,c,hc,hcell⟩
 ·exact wpAny_Name (wpAny_loadName_local I.ok.kind hk hn hm fin) hd
 ·rcases hk with hk|hk
  ·exact wpAny_Name (wpAny_loadName_cell I.ok.kind hk hc hcell fin) hd
  ·exact wpAny_Name (wpAny_loadName_free I.ok.kind hk hc hcell fin hcd) hd
theorem pe_int {i j pos}:PE X (.Constant (.int i) j pos) (tC (.int i)):=fun _ _ _ H _ I h=>wpAny_Constant_int ⟨.int i,H,I.tok _,⟨_,rfl⟩,h⟩
theorem pe_bl {b j pos}:PE X (.Constant (.bool b) j pos) (tC (.bl b)):=fun _ _ _ H _ I h=>Constant_bool ⟨.bl b,H,I,rfl,h⟩
theorem pe_non {j pos}:PE X (.Constant .none j pos) (tC .non):=fun _ _ _ H _ I h=>Constant_none ⟨.non,H,I,rfl,h⟩
def Gl (X:Cx) (x:Str):Prop:=X.env.kindOf x=some .globalImplicit
theorem ld_glob {E:Value->Shared->Prop} {pins:List (Addr×Obj)} {s:Shared} {σ:St} {H:Hp} {x:Str} {u:Value} {pos:Pos} {Q:Value->Shared->Prop} (I:Inv X pins σ H s) (hg:Gl X x) (hm:X.mg x=some u) (h:Q u s)
  (hd:(x == ("__debug__":Str))=false:=by decide):wpAny (model X.prog X.w) X.A (eval (.Name x pos) X.env) Q E s:=
 Calls.Name_function_global I.ok.kind hg (Calls.loadGlobal_global (by rw [I.ok.glob];exact I.mod.glob.keeps I.bk) hm h) hd
theorem ld_blt {E:Value->Shared->Prop} {pins:List (Addr×Obj)} {s:Shared} {σ:St} {H:Hp} {x:Str} {u:Value} {pos:Pos} {Q:Value->Shared->Prop} (I:Inv X pins σ H s) (hg:Gl X x) (hm:X.mg x=none) (hv:bootBuiltins x=some u) (h:Q u s)
  (hn:x≠"__name__":=by decide) (hd:(x == ("__debug__":Str))=false:=by decide):wpAny (model X.prog X.w) X.A (eval (.Name x pos) X.env) Q E s:=by
 obtain ⟨mb,h1,h2⟩:=I.mod.blt
 exact Calls.Name_function_global I.ok.kind hg (Calls.loadGlobal_builtin (by rw [I.ok.glob];exact I.mod.glob.keeps I.bk) hm (by rw [I.ok.blt];exact h1.keeps I.bk) ((h2 x hn).trans hv) h) hd
theorem pe_glob {x:Str} {v:V} {u:Value} {pos:Pos} (hg:Gl X x) (hm:X.mg x=some u) (r:RelV v u) (hd:(x == ("__debug__":Str))=false:=by decide):PE X (.Name x pos) (tC v):=
 fun _ _ _ H _ I h=>ld_glob I hg hm ⟨v,H,I,r,h⟩ hd
variable {a b:Expr} {ta tb:TE} {pos:Pos}
def PC (X:Cx) (op:CmpOp) (a b:Expr) (t:TE):Prop:=
 ∀(pins:List (Addr×Obj)) (s:Shared) (σ:St) (H:Hp) (Q:VK),Inv X pins σ H s->t σ H Q->
  wpAny (model X.prog X.w) X.A (eval a X.env) (fun v s₁=>wpAny (model X.prog X.w) X.A (eval b X.env) (fun u s₂=>wpAny (model X.prog X.w) X.A (compareOp op v u) (EP X pins σ Q) X.xe s₂) X.xe s₁) X.xe s
theorem nobehind (b:Expr) {op:CmpOp} (h:op≠.In) (h2:op≠.NotIn):behindInMarks op b=false:=by
 have e1:(op == CmpOp.In)=false:=by cases op <;> first|rfl|exact absurd rfl h
 have e2:(op == CmpOp.NotIn)=false:=by cases op <;> first|rfl|exact absurd rfl h2
 cases b <;> simp [behindInMarks,e1,e2]
def tIsN (ta:TE):TE:=fun σ H Q=>ta σ H fun x H1=>Q (.bl (decide (x=.non))) H1
theorem RelV.none_iff {x:V} {v:Value} (r:RelV x v):(v == Value.none)=decide (x=.non):=by
 cases x with
 |non=>cases r;rfl
 |bl _=>cases r;rfl
 |int _=>obtain ⟨t,rfl⟩:=r;rfl
 |str _=>obtain ⟨t,rfl⟩:=r;rfl
 |byt _=>obtain ⟨t,rfl⟩:=r;rfl
 |flt _=>obtain ⟨t,rfl⟩:=r;rfl
 |ref _=>cases r;rfl
 |ty _=>cases r;rfl
theorem pc_isN {j pos'} (ha:PE X a ta):PC X .Is a (.Constant .none j pos') (tIsN ta):=by
 intro pins s σ H Q I h
 refine thn (ha pins s σ H _ I h) fun v s1 ⟨x,H1,I1,r1,q1⟩=>?_
 exact Constant_none (is_none_gen ⟨.bl _,H1,I1,by rw [r1.none_iff];rfl,q1⟩)
theorem pe_cmp {op:CmpOp} {t:TE} (h:PC X op a b t) (h1:behindInMarks op b=false:=by first|exact nobehind _ (by decide) (by decide)|rfl):PE X (.Compare a [op] [b] pos) t:=fun pins s σ H Q I hw=>wpAny_Compare1 (h pins s σ H Q I hw) h1
variable {tA tB':TT} {rest:List Expr}
def tAnd (t u:TT):TT:=fun σ H Q=>t σ H fun c H1=>if c=true then u σ H1 Q else Q false H1
def tOr (t u:TT):TT:=fun σ H Q=>t σ H fun c H1=>if c=true then Q true H1 else u σ H1 Q
def tNot (t:TT):TT:=fun σ H Q=>t σ H fun c H1=>Q (!c) H1
theorem pw_and1 (ha:PT X a tA):PW X (.BoolOp .And [a] pos) tA:=by
 intro wh pins s σ H Q I h
 refine isTrue_and (thn (ha pins s σ H Q I h) fun c s1 e=>?_)
 cases c with
 |true=>exact isTrue_and_nil e
 |false=>exact e
theorem pw_or1 (ha:PT X a tA):PW X (.BoolOp .Or [a] pos) tA:=by
 intro wh pins s σ H Q I h
 refine isTrue_or (thn (ha pins s σ H Q I h) fun c s1 e=>?_)
 cases c with
 |false=>exact isTrue_or_nil e
 |true=>exact e
theorem pw_and (ha:PT X a tA) (hb:PW X (.BoolOp .And (b::rest) pos) tB'):PW X (.BoolOp .And (a::b::rest) pos) (tAnd tA tB'):=by
 intro wh pins s σ H Q I h
 refine isTrue_and (thn (ha pins s σ H _ I h) fun c s1 ⟨H1,I1,q1⟩=>?_)
 cases c with
 |true=>exact hb wh pins s1 σ H1 Q I1 q1
 |false=>exact ⟨H1,I1,q1⟩
theorem pw_or (ha:PT X a tA) (hb:PW X (.BoolOp .Or (b::rest) pos) tB'):PW X (.BoolOp .Or (a::b::rest) pos) (tOr tA tB'):=by
 intro wh pins s σ H Q I h
 refine isTrue_or (thn (ha pins s σ H _ I h) fun c s1 ⟨H1,I1,q1⟩=>?_)
 cases c with
 |true=>exact ⟨H1,I1,q1⟩
 |false=>exact hb wh pins s1 σ H1 Q I1 q1
theorem pt_not (ha:PT X a tA):PT X (.UnaryOp .Not a pos) (tNot tA):=by
 intro pins s σ H Q I h
 exact isTrue_not (ha pins s σ H (fun c H1=>Q (!c) H1) I h)
def tAndV (ta tb:TE):TE:=fun σ H Q=>ta σ H fun x H1=>∃c,x=.bl c/\if c=true then tb σ H1 Q else Q (.bl false) H1
theorem pe_one {op} {t:TE} (h:PE X a t):PE X (.BoolOp op [a] pos) t:=fun pins s σ H Q I hw=>BoolOp_one (h pins s σ H Q I hw)
theorem pe_and (ha:PE X a ta) (hb:PE X (.BoolOp .And (b::rest) pos) tb):PE X (.BoolOp .And (a::b::rest) pos) (tAndV ta tb):=by
 intro pins s σ H Q I h
 refine BoolOp_and (thn (ha pins s σ H _ I h) fun v s1 ⟨x,H1,I1,r1,q1⟩=>?_)
 obtain ⟨c,rfl,q1⟩:=q1
 cases r1
 refine wpAny_truthy_bool ?_
 cases c with
 |true=>exact hb pins s1 σ H1 Q I1 q1
 |false=>exact ⟨.bl false,H1,I1,rfl,q1⟩
def tIf (t:TT) (ta tb:TE):TE:=fun σ H Q=>t σ H fun c H1=>if c=true then ta σ H1 Q else tb σ H1 Q
theorem pe_ifExp {c:Expr} (hc:PT X c tA) (ha:PE X a ta) (hb:PE X b tb):PE X (.IfExp c a b pos) (tIf tA ta tb):=by
 intro pins s σ H Q I h
 refine wpAny_IfExp (thn (hc pins s σ H _ I h) fun d s1 ⟨H1,I1,q1⟩=>?_)
 cases d with
 |true=>exact ha pins s1 σ H1 Q I1 q1
 |false=>exact hb pins s1 σ H1 Q I1 q1
end
def SqL (K:W.Frag) (H:Hp) (a:Addr) (xs:List V):Prop:=
 Rd H a (.lst xs)\/
  ∃(o:Obj) (its:Array Value) (n:Nat),K.lookup a=some o/\o.cls=.type "list"/\o.dict=none/\o.data=.seq its n/\its.size<=sizeLine/\Vals xs its.toList
def SqT (K:W.Frag) (H:Hp) (a:Addr) (xs:List V):Prop:=
 Rd H a (.tup xs)\/
  ∃(o:Obj) (its:Array Value) (n:Nat),K.lookup a=some o/\o.cls=.type "tuple"/\o.data=.seq its n/\its.size<=sizeLine/\Vals xs its.toList
def absV:Value->Option V
 |.none=>some .non
 |.bool b=>some (.bl b)
 |.int i _=>some (.int i)
 |.str x _=>some (.str x)
 |.bytes b _=>some (.byt b)
 |.float b _=>some (.flt b)
 |.ref a=>some (.ref a)
 |.type n=>some (.ty n)
 |_=>none
theorem RelV.abs {x:V} {u:Value} (r:RelV x u):absV u=some x:=by
 cases x with
 |non=>cases r;rfl
 |bl _=>cases r;rfl
 |int _=>obtain ⟨t,rfl⟩:=r;rfl
 |str _=>obtain ⟨t,rfl⟩:=r;rfl
 |byt _=>obtain ⟨t,rfl⟩:=r;rfl
 |flt _=>obtain ⟨t,rfl⟩:=r;rfl
 |ref _=>cases r;rfl
 |ty _=>cases r;rfl
theorem RelV.inj {x y:V} {u:Value} (r:RelV x u) (q:RelV y u):x=y:=Option.some.inj (r.abs.symm.trans q.abs)
theorem Vals.inj:∀{xs ys:List V} {us:List Value},Vals xs us->Vals ys us->xs=ys
 |_,_,_,.nil,.nil=>rfl
 |_,_,_,.cons r t,.cons r' t'=>by rw [r.inj r',Vals.inj t t']
section
variable {X:Cx} {pins:List (Addr×Obj)} {σ:St} {H:Hp} {s:Shared} {a:Addr} {xs ys:List V}
theorem SqL.of {K:W.Frag} (h:H a=some (.lst xs)):SqL K H a xs:=.inl (.inl h)
theorem SqT.of {K:W.Frag} (h:H a=some (.tup xs)):SqT K H a xs:=.inl (.inl h)
theorem Inv.list (I:Inv X pins σ H s) (h:SqL X.K H a xs):∃its:List Value,Vals xs its/\PlainL s.heap a its.toArray/\xs.length<=sizeLine:=by
 rcases h with h|⟨o,its,n,hk,hc,hd,hs,hz,r⟩
 ·obtain ⟨z,its,n,r,e⟩:=h.ok I.hok
  exact ⟨its,r,⟨_,n,e,rfl,rfl,rfl⟩,z⟩
 ·refine ⟨its.toList,r,⟨o,n,I.kIn a o hk,hc,hd,by simpa using hs⟩,?_⟩
  have e:=r.length
  simp only [Array.length_toList] at e
  omega
theorem Inv.tuple (I:Inv X pins σ H s) (h:SqT X.K H a xs):∃its:List Value,Vals xs its/\IsTup s.heap a its.toArray/\xs.length<=sizeLine:=by
 rcases h with h|⟨o,its,n,hk,hc,hs,hz,r⟩
 ·obtain ⟨z,its,r,p⟩:=h.ok I.hok
  exact ⟨its,r,p,z⟩
 ·refine ⟨its.toList,r,⟨o,I.kIn a o hk,hc,n,by simpa using hs⟩,?_⟩
  have e:=r.length
  simp only [Array.length_toList] at e
  omega
theorem Inv.list_inj (I:Inv X pins σ H s) (h:SqL X.K H a xs) (h':SqL X.K H a ys):xs=ys:=by
 obtain ⟨its,r,⟨o,n,e,_,_,d⟩,_⟩:=I.list h
 obtain ⟨its',r',⟨o',n',e',_,_,d'⟩,_⟩:=I.list h'
 rw [e] at e';cases e'
 rw [d] at d'
 injection d' with d1 _
 have:its=its':=by simpa using congrArg Array.toList d1
 subst this
 exact r.inj r'
theorem Inv.tuple_inj (I:Inv X pins σ H s) (h:SqT X.K H a xs) (h':SqT X.K H a ys):xs=ys:=by
 obtain ⟨its,r,⟨o,e,_,n,d⟩,_⟩:=I.tuple h
 obtain ⟨its',r',⟨o',e',_,n',d'⟩,_⟩:=I.tuple h'
 rw [e] at e';cases e'
 rw [d] at d'
 injection d' with d1 _
 have:its=its':=by simpa using congrArg Array.toList d1
 subst this
 exact r.inj r'
end
abbrev Cx.wish (X:Cx) (E:Value->Shared->Prop):Cx:={X with xe:=E}
abbrev Cx.nox (X:Cx):Cx:=X.wish fun _ _=>False
theorem Cx.Ok.wish {X:Cx} (ok:X.Ok) (E:Value->Shared->Prop):(X.wish E).Ok:=
 ⟨ok.mod,ok.kind,ok.glob,ok.blt,ok.above,ok.inj,ok.has,ok.cab,ok.hd,ok.frames,ok.stk,ok.exf,ok.bs,ok.bsz,ok.noex,ok.exfs,ok.funs,ok.frf⟩
theorem Cx.Ok.unwish {X:Cx} {E:Value->Shared->Prop} (ok:(X.wish E).Ok):X.Ok:=
 ⟨ok.mod,ok.kind,ok.glob,ok.blt,ok.above,ok.inj,ok.has,ok.cab,ok.hd,ok.frames,ok.stk,ok.exf,ok.bs,ok.bsz,ok.noex,ok.exfs,ok.funs,ok.frf⟩
section
variable {X:Cx} {pins:List (Addr×Obj)} {σ:St} {H:Hp} {s:Shared} {E:Value->Shared->Prop}
theorem Inv.wish (I:Inv X pins σ H s) (E:Value->Shared->Prop):Inv (X.wish E) pins σ H s:=⟨I.ok.wish E,I.os,I.bare,I.base,I.loc,I.cell,I.free,I.freeC,I.pin,I.hok,I.len⟩
theorem Inv.unwish (I:Inv (X.wish E) pins σ H s):Inv X pins σ H s:=⟨I.ok.unwish,I.os,I.bare,I.base,I.loc,I.cell,I.free,I.freeC,I.pin,I.hok,I.len⟩
theorem SP.unwish {D:Ends} {f:Flow} {s':Shared} (h:SP (X.wish E) pins D f s'):SP X pins D f s':=by
 cases f with
 |next=>obtain ⟨σ',H',I,q⟩:=h;exact ⟨σ',H',I.unwish,q⟩
 |brk=>obtain ⟨σ',H',I,q⟩:=h;exact ⟨σ',H',I.unwish,q⟩
 |cont=>obtain ⟨σ',H',I,q⟩:=h;exact ⟨σ',H',I.unwish,q⟩
 |ret u=>obtain ⟨v,σ',H',I,r,q⟩:=h;exact ⟨v,σ',H',I.unwish,r,q⟩
theorem PSs.nox {st:List Stmt} {t:TS} (h:PSs X.nox st t):PSs X st t:=fun pins s σ H D I hw=>
 wpAny_mono (h pins s σ H D (I.wish _) hw) (fun _ _ q=>q.unwish) fun _ _ z=>False.elim z
end
section
variable {X:Cx} {st:Stmt} {rest:List Stmt} {t u:TS} {e:Expr} {te:TE} {pos:Pos}
def tNext:TS:=fun D σ H=>D.nx σ H
def tSeq (t u:TS):TS:=fun D σ H=>t {D with nx:=u D} σ H
theorem pss_nil:PSs X [] tNext:=fun _ _ σ H _ I h=>wpAny_execs_nil ⟨σ,H,I,h⟩
theorem pss_cons (h1:PS X st t) (h2:PSs X rest u):PSs X (st::rest) (tSeq t u):=by
 intro pins s σ H D I h
 refine wpAny_execs_cons (thn (h1 pins s σ H {D with nx:=u D} I h) fun f s1 q=>?_)
 cases f with
 |next=>
  obtain ⟨σ',H',I',q⟩:=q
  exact h2 pins s1 σ' H' D I' q
 |ret v=>exact q
 |brk=>exact q
 |cont=>exact q
theorem pss_one (h1:PS X st t):PSs X [st] t:=by
 intro pins s σ H D I h
 refine wpAny_execs_cons (thn (h1 pins s σ H D I h) fun f s1 q=>?_)
 cases f with
 |next=>exact wpAny_execs_nil q
 |ret v=>exact q
 |brk=>exact q
 |cont=>exact q
theorem Inv.quiet {pins:List (Addr×Obj)} {σ:St} {H:Hp} {s:Shared} (I:Inv X pins σ H s):interactive X.env=false:=by simp [interactive,I.ok.kind]
def tDrop (te:TE):TS:=fun D σ H=>te σ H fun _ H1=>D.nx σ H1
theorem ps_expr (he:PE X e te) (hs:swapsWith e none pos.line X.env=pure false:=by rfl):PS X (.Expr e pos) (tDrop te):=by
 intro pins s σ H D I h
 exact wpAny_Expr_any (thn (he pins s σ H _ I h) fun v s1 ⟨x,H1,I1,r1,q1⟩=>⟨σ,H1,I1,q1⟩) I.quiet hs
def tRet (te:TE):TS:=fun D σ H=>te σ H D.rt
theorem ps_ret (he:PE X e te):PS X (.Return (some e) pos) (tRet te):=by
 intro pins s σ H D I h
 exact wpAny_Return_some (thn (he pins s σ H _ I h) fun v s1 ⟨x,H1,I1,r1,q1⟩=>⟨x,σ,H1,I1,r1,q1⟩)
def tRetN:TS:=fun D _ H=>D.rt .non H
theorem ps_retN:PS X (.Return none pos) tRetN:=fun _ _ σ H _ I h=>wpAny_Return_none ⟨.non,σ,H,I,rfl,h⟩
def tIfS (c:TT) (t u:TS):TS:=fun D σ H=>c σ H fun b H1=>if b=true then t D σ H1 else u D σ H1
theorem ps_if {c:Expr} {a b:List Stmt} {tc:TT} (hc:PT X c tc) (ha:PSs X a t) (hb:PSs X b u):PS X (.If c a b pos) (tIfS tc t u):=by
 intro pins s σ H D I h
 refine wpAny_If (thn (hc pins s σ H _ I h) fun d s1 ⟨H1,I1,q1⟩=>?_)
 cases d with
 |true=>exact ha pins s1 σ H1 D I1 q1
 |false=>exact hb pins s1 σ H1 D I1 q1
end
abbrev TG:=V->St->Hp->(St->Hp->Prop)->Prop
abbrev TGs:=List V->St->Hp->(St->Hp->Prop)->Prop
def PG (X:Cx) (target:Expr) (t:TG):Prop:=
 ∀(pins:List (Addr×Obj)) (s:Shared) (σ:St) (H:Hp) (v:V) (u:Value) (Q:St->Hp->Prop),Inv X pins σ H s->RelV v u->t v σ H Q->
  wpAny (model X.prog X.w) X.A (assign target X.env u) (fun _ s'=>∃σ' H',Inv X pins σ' H' s'/\Q σ' H') X.xe s
def PGs (X:Cx) (ts:List Expr) (t:TGs):Prop:=
 ∀(pins:List (Addr×Obj)) (s:Shared) (σ:St) (H:Hp) (vs:List V) (us:List Value) (Q:St->Hp->Prop),Inv X pins σ H s->Vals vs us->t vs σ H Q->
  wpAny (model X.prog X.w) X.A (assignInOrder ((assignEach ts X.env).map (·.2)) us) (fun _ s'=>∃σ' H',Inv X pins σ' H' s'/\Q σ' H') X.xe s
abbrev TSet:=V->V->V->Hp->(Hp->Prop)->Prop
def PSet (X:Cx) (t:TSet):Prop:=
 ∀(pins:List (Addr×Obj)) (s:Shared) (σ:St) (H:Hp) (o i v:V) (ov iv u:Value) (Q:Hp->Prop),Inv X pins σ H s->RelV o ov->RelV i iv->RelV v u->t o i v H Q->
  wpAny (model X.prog X.w) X.A (setItem ov iv u) (fun _ s'=>∃H',Inv X pins σ H' s'/\Q H') X.xe s
section
variable {X:Cx} {pos:Pos}
def gName (i:Nat):TG:=fun v σ H Q=>Q (σ.set i (some v)) H
theorem pg_name {i:Nat} {x:Str} (hN:X.N.Nodup) (hi:X.N[i]?=some x) (hx:Loc X.env.scope x) (hf:X.fn x=true\/X.env.scope.names.lookup x=some .local:=by first|exact .inl rfl|exact .inr rfl|assumption):PG X (.Name x pos) (gName i):=by
 intro pins s σ H v u Q I r h
 exact wpAny_assign_Name (store_ok I hN hi hx r (fun s' I'=>⟨_,H,I',h⟩) hf)
def gNil:TGs:=fun vs σ H Q=>vs=[]/\Q σ H
def gCons (t:TG) (u:TGs):TGs:=fun vs σ H Q=>∃v r,vs=v::r/\t v σ H fun σ' H'=>u r σ' H' Q
theorem pgs_nil:PGs X [] gNil:=by
 intro pins s σ H vs us Q I r h
 obtain ⟨e,h⟩:=h
 subst e
 cases r
 exact assignInOrder_nil ⟨σ,H,I,h⟩
theorem pgs_cons {e:Expr} {es:List Expr} {t:TG} {u:TGs} (h1:PG X e t) (h2:PGs X es u)
  (hs:(assignEach (e::es) X.env).map (·.2)=assign e X.env::(assignEach es X.env).map (·.2):=by rfl):PGs X (e::es) (gCons t u):=by
 intro pins s σ H vs us Q I r h
 obtain ⟨v,vr,e1,h⟩:=h
 subst e1
 cases r with
 |cons r rr=>
  rw [hs]
  refine assignInOrder_cons (thn (h1 pins s σ H _ _ _ I r h) fun _ s1 ⟨σ1,H1,I1,q1⟩=>?_)
  exact h2 pins s1 σ1 H1 _ _ Q I1 rr q1
def gTup (K:W.Frag) (n:Nat) (t:TGs):TG:=fun v σ H Q=>∃a xs,v=.ref a/\SqT K H a xs/\xs.length=n/\t xs σ H Q
theorem pg_tup {es:List Expr} {k:Nat} {t:TGs} {n:Nat} (hc:X.calm=true) (h:PGs X es t)
  (hn:(assignEach es X.env).length=n:=by rfl) (hst:(assignEach es X.env).findIdx? (·.1)=none:=by rfl):PG X (.Tuple es k pos) (gTup X.K n t):=by
 intro pins s σ H v u Q I r hw
 obtain ⟨a,xs,e1,hq,hl,hw⟩:=hw
 subst e1
 cases r
 obtain ⟨its,rv,ht,hz⟩:=I.tuple hq
 refine assign_Tuple_tuple (I.ok.hd hc) ht (by simp [hn,<-hl,rv.length]) hst fun h' hx=>?_
 have I1:Inv X pins σ H {s with heap:=h'}:=I.kept (t':=s.toks) fun b o e=>hx b o (Nat.ne_of_lt (Heap.lt_size e)) e
 exact h pins _ σ H xs _ Q I1 (by simpa using rv) hw
def gSub (to ti:TE) (t:TSet):TG:=fun v σ H Q=>to σ H fun o H1=>ti σ H1 fun i H2=>t o i v H2 fun H3=>Q σ H3
theorem pg_sub {o i:Expr} {to ti:TE} {t:TSet} (ho:PE X o to) (hi:PE X i ti) (hs:PSet X t)
  (ha:∀v,assign (.Subscript o i pos) X.env v=(do
   let ov <-holding [v] (eval o X.env)
   let iv <-holding [v,ov] (eval i X.env)
   standAt pos
   holding [v,ov,iv] (setItem ov iv v)
   release [v,ov,iv] []):=by intro _;rfl):PG X (.Subscript o i pos) (gSub to ti t):=by
 intro pins s σ H v u Q I r h
 rw [ha]
 refine wpAny_bind (wpAny_holding (thn (ho pins s σ H _ I h) fun ov s1 ⟨x,H1,I1,r1,q1⟩=>?_))
 refine wpAny_bind (wpAny_holding (thn (hi pins s1 σ H1 _ I1 q1) fun iv s2 ⟨y,H2,I2,r2,q2⟩=>?_))
 refine wpAny_bind (wpAny_standAt (wpAny_bind (wpAny_holding (thn (hs pins s2 σ H2 x y v ov iv u _ I2 r1 r2 r q2) fun _ s3 ⟨H3,I3,q3⟩=>?_))))
 exact wpAny_release ⟨σ,H3,I3,q3⟩
def tAsg (te:TE) (g:TG):TS:=fun D σ H=>te σ H fun x H1=>g x σ H1 D.nx
theorem ps_asg {tg e:Expr} {te:TE} {g:TG} (he:PE X e te) (hg:PG X tg g) (hs:swapsWithSole [tg] e pos.line X.env=pure false:=by rfl) (hw:swappedStores [tg] e X.env=pure none:=by rfl)
  (h1:(assignEach [tg] X.env).map (·.2)=[assign tg X.env]:=by rfl):PS X (.Assign [tg] e pos) (tAsg te g):=by
 intro pins s σ H D I h
 refine wpAny_Assign_stores (thn (he pins s σ H _ I h) fun v s1 ⟨x,H1,I1,r1,q1⟩=>?_) hs hw
 rw [h1]
 exact thn (hg pins s1 σ H1 x v _ I1 r1 q1) fun _ s2 q=>q
theorem ps_set {i:Nat} {x:Str} {e:Expr} {te:TE} {pos':Pos} (hN:X.N.Nodup) (hi:X.N[i]?=some x) (hx:Loc X.env.scope x) (he:PE X e te) (hs:swapsWith e (some (.Name x pos')) pos.line X.env=pure false:=by rfl) (hf:X.fn x=true\/X.env.scope.names.lookup x=some .local:=by first|exact .inl rfl|exact .inr rfl|assumption):
  PS X (.Assign [.Name x pos'] e pos) (tAsg te (gName i)):=by
 intro pins s σ H D I h
 refine wpAny_Assign_Name (thn (he pins s σ H _ I h) fun v s1 ⟨y,H1,I1,r1,q1⟩=>?_) hs
 exact store_ok I1 hN hi hx r1 (fun s2 I2=>⟨_,H1,I2,q1⟩) hf
end
section
variable {X:Cx} {pos:Pos}
def tWhile (c:TT) (tb:TS):TS:=fun D σ H=>∃W:Nat->St->Hp->Prop,(∃m,W m σ H)/\∀m σ H,W m σ H->
 c σ H fun b H1=>if b=true then ∃N:St->Hp->Prop,(∀σ' H',N σ' H'->∃m',m' < m/\W m' σ' H')/\tb {D with nx:=N,ct:=N,bk:=D.nx} σ H1 else D.nx σ H1
theorem ps_while {c:Expr} {body:List Stmt} {tc:TT} {tb:TS} (hp:PassesOwn (model X.prog X.w) X.A X.env X.xe) (hc:PT X c tc) (hb:PSs X body tb):PS X (.While c body [] pos) (tWhile tc tb):=by
 intro pins s σ H D I h
 obtain ⟨W,⟨m0,w0⟩,turn⟩:=h
 refine wpAny_While (codeAny_whileLoop (fun n s'=>∃σ' H',Inv X pins σ' H' s'/\W n σ' H') ?_ m0 ⟨σ,H,I,w0⟩)
 rintro n s1 ⟨σ1,H1,I1,w1⟩
 refine wpAny_passesOwn hp (thn (hc pins s1 σ1 H1 _ I1 (turn n σ1 H1 w1)) fun b s2 ⟨H2,I2,q2⟩=>?_)
 cases b with
 |true=>
  obtain ⟨N,hN,q2⟩:=q2
  rw [if_pos rfl]
  refine wpAny_passesOwn hp (thn (hb pins s2 σ1 H2 _ I2 q2) fun f s3 q3=>?_)
  cases f with
  |next=>
   obtain ⟨σ3,H3,I3,n3⟩:=q3
   obtain ⟨m',hm,w3⟩:=hN σ3 H3 n3
   exact ⟨m',hm,σ3,H3,I3,w3⟩
  |cont=>
   obtain ⟨σ3,H3,I3,n3⟩:=q3
   obtain ⟨m',hm,w3⟩:=hN σ3 H3 n3
   exact ⟨m',hm,σ3,H3,I3,w3⟩
  |brk=>exact q3
  |ret v=>exact q3
 |false=>
  rw [if_neg Bool.false_ne_true]
  exact wpAny_execs_nil ⟨σ1,H2,I2,q2⟩
end
structure It where
 go:Nat->Hp->Prop
 yld:Nat->Hp->V->Hp->Prop
 stop:Nat->Hp->Prop
def FpOk (X:Cx) (pins:List (Addr×Obj)) (H:Hp) (b:Addr):Prop:=
 H b=none/\b≠X.env.locals/\b∉X.fs/\(b∈X.ex\/X.s_0.heap.objs.size<=b)/\(∀x c,X.env.cells.lookup x=some c->c≠b)/\∀p∈X.pn++pins,p.1≠b
theorem Inv.fpOk {X:Cx} {pins:List (Addr×Obj)} {σ:St} {H H':Hp} {s:Shared} {b:Addr} (I:Inv X pins σ H s) (hb:s.heap.objs.size<=b) (hn:H' b=none):FpOk X pins H' b:=by
 refine ⟨hn,Nat.ne_of_gt (Nat.lt_of_lt_of_le I.lt hb),I.nofs hb,.inr (Nat.le_trans I.sz hb),fun x c e z=>?_,fun p hp z=>?_⟩
 ·obtain ⟨v,q⟩:=I.cell x c e
  exact absurd (Nat.lt_of_lt_of_le q.lt (by rw [z];exact hb)) (Nat.lt_irrefl _)
 ·exact absurd (Nat.lt_of_lt_of_le (Heap.lt_size (I.pin p hp).1) (by rw [z];exact hb)) (Nat.lt_irrefl _)
structure Turn (P:Program) (w:World) (K:W.Frag) (tg:Expr) (J:It) (fp:List Addr) (it:Addr) (tn:Nat->Heap->Prop):Prop where
 mem:it∈fp
 obj:∀i h,tn i h->∀b∈fp,∃o,h.get? b=some o/\∀v,o.data≠.cell v
 keep:∀i h h',tn i h->(∀b∈fp,∀o,h.get? b=some o->h'.get? b=some o)->tn i h'
 item:∀(X:Cx),X.prog=P->X.w=w->X.K=K->X.calm=true->∀(i:Nat) (pins:List (Addr×Obj)) (s:Shared) (σ:St) (H:Hp) (E:Value->Shared->Prop),Inv X pins σ H s->(∀b∈fp,FpOk X pins H b)->tn i s.heap->J.go i H->
  wpAny (model P w) X.A (pyNext (.ref it)) (fun r s1=>∃u,r=some u/\
   wpAny (model P w) X.A (letOwnedTupleGo tg (.ref it) u) (fun _ s2=>∃x H',Inv X pins σ H' s2/\RelV x u/\J.yld i H x H'/\tn (i+1) s2.heap/\∀b∈fp,H' b=none) E s1) E s
 done:∀(X:Cx),X.prog=P->X.w=w->X.K=K->X.calm=true->∀(i:Nat) (pins:List (Addr×Obj)) (s:Shared) (σ:St) (H:Hp) (E:Value->Shared->Prop),Inv X pins σ H s->(∀b∈fp,FpOk X pins H b)->tn i s.heap->J.stop i H->
  wpAny (model P w) X.A (pyNext (.ref it)) (fun r s1=>r=none/\Inv X pins σ H s1) E s
 self:∀(A:Around) (i:Nat) (s:Shared) (Q:Value->Shared->Prop) (E:Value->Shared->Prop),tn i s.heap->Q (.ref it) s->wpAny (model P w) A (pyIter (.ref it)) Q E s
abbrev TI:=St->Hp->(It->Hp->Prop)->Prop
def PIE (X:Cx) (pins:List (Addr×Obj)) (σ:St) (tg:Expr) (R:It->Hp->Prop) (itv:Value) (s2:Shared):Prop:=
 ∃(it:Addr) (fp:List Addr) (tn:Nat->Heap->Prop) (J:It) (H':Hp),itv=.ref it/\Inv X pins σ H' s2/\Turn X.prog X.w X.K tg J fp it tn/\tn 0 s2.heap/\(∀b∈fp,FpOk X pins H' b)/\R J H'
def PI (X:Cx) (tg iter:Expr) (wi:TI):Prop:=
 ∀(pins:List (Addr×Obj)) (s:Shared) (σ:St) (H:Hp) (R:It->Hp->Prop),Inv X pins σ H s->wi σ H R->
  wpAny (model X.prog X.w) X.A (eval iter X.env) (fun v s1=>wpAny (model X.prog X.w) X.A (pyIter v) (PIE X pins σ tg R) X.xe s1) X.xe s
theorem go_of {M:Model} {A:Around} {E:Value->Shared->Prop} {s:Shared} {tg:Expr} {it:Addr} {u:Value} {o:Obj} {n:String} {vs:Array Value} {Q:Unit->Shared->Prop} (ho:s.heap.get? it=some o) (hc:o.cls=.type n) (hd:o.data=.fields vs)
  (hn:["enumerate","zip","dict_itemiterator","dict_reverseitemiterator","odict_iterator","itertools.zip_longest","itertools.pairwise"].contains n=false) (hQ:Q () s):wpAny M A (letOwnedTupleGo tg (.ref it) u) Q E s:=by
 unfold letOwnedTupleGo
 cases tg <;> first
  |exact wpAny_pure hQ
  |(cases u <;> first
    |exact wpAny_pure hQ
    |(refine wpAny_bind (wpAny_load ho ?_)
      rw [hc,hd]
      show wpAny M A (if (["enumerate","zip","dict_itemiterator","dict_reverseitemiterator","odict_iterator","itertools.zip_longest","itertools.pairwise"].contains n&&vs[0]? == some (rawInt _))=true then _ else _) Q E s
      rw [if_neg (by intro h;rw [hn,Bool.false_and] at h;cases h)]
      exact wpAny_pure hQ))
def Itl (K:W.Frag) (a:Addr):It:=
 ⟨fun i H=>∃xs x,SqL K H a xs/\xs[i]?=some x,fun i H x H'=>H'=H/\∀xs,SqL K H a xs->xs[i]?=some x,fun i H=>∃xs,SqL K H a xs/\xs.length<=i⟩
def Itt (K:W.Frag) (a:Addr):It:=
 ⟨fun i H=>∃xs x,SqT K H a xs/\xs[i]?=some x,fun i H x H'=>H'=H/\∀xs,SqT K H a xs->xs[i]?=some x,fun i H=>∃xs,SqT K H a xs/\xs.length<=i⟩
def Itr (lo:Int) (n:Nat):It:=⟨fun i _=>i < n,fun i H x H'=>H'=H/\x=.int (lo+i),fun i _=>n<=i⟩
theorem turn_list {P:Program} {w:World} {K:W.Frag} {tg:Expr} (a it:Addr):Turn P w K tg (Itl K a) [it] it (fun i h=>h.IsListIter it a i) where
 mem:=by simp
 obj:=fun i h st b hb=>by
  have e:b=it:=by simpa using hb
  subst e
  obtain ⟨o,e,c,d⟩:=st
  exact ⟨o,e,fun v z=>by rw [d] at z;cases z⟩
 keep:=fun i h h' st k=>st.at fun o e=>k it (by simp) o e
 item:=by
  intro X hP hw hK hc i pins s σ H E I hf st hg
  subst hP hw hK
  obtain ⟨xs,x,hq,hx⟩:=hg
  obtain ⟨its,rv,p,hz⟩:=I.list hq
  obtain ⟨u,hu,ru⟩:=rv.get hx
  obtain ⟨f0,f1,f2,f3,f4,f5⟩:=hf it (by simp)
  refine wpAny_pyNext_list_item st p.isList (x:=u) (by simpa using hu) fun h' st' sb=>?_
  have I1:Inv X pins σ H {s with heap:=h'}:=I.turned (t':=s.toks) (fun b o hb e=>(sb.2 b hb).trans e) f0 f1 f3 f4 f5
  obtain ⟨o,e,c,d⟩:=id st'
  exact ⟨u,rfl,go_of (s:={s with heap:=h'}) e c d (by decide) ⟨x,H,I1,ru,⟨rfl,fun ys hy=>by rw [I.list_inj hy hq];exact hx⟩,st',fun b hb=>(hf b hb).1⟩⟩
 done:=by
  intro X hP hw hK hc i pins s σ H E I hf st hg
  subst hP hw hK
  obtain ⟨xs,hq,hx⟩:=hg
  obtain ⟨its,rv,p,hz⟩:=I.list hq
  obtain ⟨f0,f1,f2,f3,f4,f5⟩:=hf it (by simp)
  have hl:=rv.length
  exact wpAny_pyNext_list_end (I.ok.hd hc) st p.isList (by simp;omega) fun h' eb=>⟨rfl,I.turned (t':=s.toks) (fun b o hb e=>eb b o hb e) f0 f1 f3 f4 f5⟩
 self:=fun _ _ _ _ _ st h=>wpAny_pyIter_listiter st h
theorem turn_tuple {P:Program} {w:World} {K:W.Frag} {tg:Expr} (a it:Addr):Turn P w K tg (Itt K a) [it] it (fun i h=>h.IsTupleIter it a i) where
 mem:=by simp
 obj:=fun i h st b hb=>by
  have e:b=it:=by simpa using hb
  subst e
  obtain ⟨o,e,c,d⟩:=st
  exact ⟨o,e,fun v z=>by rw [d] at z;cases z⟩
 keep:=fun i h h' st k=>st.at fun o e=>k it (by simp) o e
 item:=by
  intro X hP hw hK hc i pins s σ H E I hf st hg
  subst hP hw hK
  obtain ⟨xs,x,hq,hx⟩:=hg
  obtain ⟨its,rv,p,hz⟩:=I.tuple hq
  obtain ⟨u,hu,ru⟩:=rv.get hx
  obtain ⟨f0,f1,f2,f3,f4,f5⟩:=hf it (by simp)
  refine wpAny_pyNext_tuple_item st (show s.heap.IsTuple a its.toArray from p) (x:=u) (by simpa using hu) fun h' st' sb=>?_
  have I1:Inv X pins σ H {s with heap:=h'}:=I.turned (t':=s.toks) (fun b o hb e=>(sb.2 b hb).trans e) f0 f1 f3 f4 f5
  obtain ⟨o,e,c,d⟩:=id st'
  exact ⟨u,rfl,go_of (s:={s with heap:=h'}) e c d (by decide) ⟨x,H,I1,ru,⟨rfl,fun ys hy=>by rw [I.tuple_inj hy hq];exact hx⟩,st',fun b hb=>(hf b hb).1⟩⟩
 done:=by
  intro X hP hw hK hc i pins s σ H E I hf st hg
  subst hP hw hK
  obtain ⟨xs,hq,hx⟩:=hg
  obtain ⟨its,rv,p,hz⟩:=I.tuple hq
  obtain ⟨f0,f1,f2,f3,f4,f5⟩:=hf it (by simp)
  have hl:=rv.length
  exact wpAny_pyNext_tuple_end (I.ok.hd hc) st (show s.heap.IsTuple a its.toArray from p) (by simp;omega) fun h' eb=>⟨rfl,I.turned (t':=s.toks) (fun b o hb e=>eb b o hb e) f0 f1 f3 f4 f5⟩
 self:=fun _ _ _ _ _ st h=>wpAny_pyIter_tupleiter st h
theorem turn_range {P:Program} {w:World} {K:W.Frag} {tg:Expr} (it:Addr) (lo:Int) (n:Nat):Turn P w K tg (Itr lo n) [it] it (fun i h=>IsRangeIter h it (lo+(i:Nat)*1) ((n:Int) - (i:Nat)) 1) where
 mem:=by simp
 obj:=fun i h st b hb=>by
  have e:b=it:=by simpa using hb
  subst e
  exact ⟨_,st,fun v z=>by
   have z':Data.fields _=Data.cell v:=z
   cases z'⟩
 keep:=fun i h h' st k=>k it (by simp) _ st
 item:=by
  intro X hP hw hK hc i pins s σ H E I hf st hg
  subst hP hw hK
  obtain ⟨f0,f1,f2,f3,f4,f5⟩:=hf it (by simp)
  have W:=Walks.range (prog:=X.prog) (w:=X.w) (I.ok.hd hc) it lo 1 n
  refine W.item i s _ _ hg st fun v h' tk hv st' kk=>?_
  obtain ⟨t,rfl⟩:=hv
  have I1:Inv X pins σ H {s with heap:=h',toks:=tk}:=I.turned (fun b o hb e=>kk b o (by simpa using hb) e) f0 f1 f3 f4 f5
  refine ⟨_,rfl,go_of (s:={s with heap:=h',toks:=tk}) (n:="range_iterator") st' rfl rfl (by decide) ⟨.int (lo+i),H,I1,⟨t,?_⟩,⟨rfl,rfl⟩,st',fun b hb=>(hf b hb).1⟩⟩
  rw [Int.mul_one]
 done:=by
  intro X hP hw hK hc i pins s σ H E I hf st hg
  subst hP hw hK
  obtain ⟨f0,f1,f2,f3,f4,f5⟩:=hf it (by simp)
  exact wpAny_pyNext_range_end (I.ok.hd hc) st (by have:n<=i:=hg;omega) fun h' eb=>⟨rfl,I.turned (t':=s.toks) (fun b o hb e=>eb b o hb e) f0 f1 f3 f4 f5⟩
 self:=fun _ _ _ _ _ st h=>wpAny_pyIter_rangeiter st h
section
variable {X:Cx} {tg:Expr}
def iList (K:W.Frag) (tl:TE):TI:=fun σ H R=>tl σ H fun x H1=>∃a,x=.ref a/\(∃xs,SqL K H1 a xs)/\R (Itl K a) H1
def iTup (K:W.Frag) (tl:TE):TI:=fun σ H R=>tl σ H fun x H1=>∃a,x=.ref a/\(∃xs,SqT K H1 a xs)/\R (Itt K a) H1
theorem pi_list {l:Expr} {tl:TE} (hl:PE X l tl):PI X tg l (iList X.K tl):=by
 intro pins s σ H R I h
 refine thn (hl pins s σ H _ I h) fun v s1 ⟨x,H1,I1,r1,q1⟩=>?_
 obtain ⟨a,e,⟨xs,hq⟩,q⟩:=q1
 subst e
 cases r1
 obtain ⟨its,rv,p,hz⟩:=I1.list hq
 refine wpAny_pyIter_list p.isList ?_
 refine ⟨s1.heap.objs.size,[s1.heap.objs.size],_,_,H1,rfl,I1.kept (t':=s1.toks) fun b o e=>Heap.get?_push_of_some _ e,turn_list a _,⟨_,Heap.get?_push_size _ rfl,rfl,rfl⟩,fun b hb=>?_,q⟩
 have e:b=s1.heap.objs.size:=by simpa using hb
 subst e
 exact I1.fpOk (Nat.le_refl _) (I1.hok.fresh (Nat.le_refl _))
theorem pi_tup {l:Expr} {tl:TE} (hl:PE X l tl):PI X tg l (iTup X.K tl):=by
 intro pins s σ H R I h
 refine thn (hl pins s σ H _ I h) fun v s1 ⟨x,H1,I1,r1,q1⟩=>?_
 obtain ⟨a,e,⟨xs,hq⟩,q⟩:=q1
 subst e
 cases r1
 obtain ⟨its,rv,p,hz⟩:=I1.tuple hq
 refine wpAny_pyIter_tuple (show s1.heap.IsTuple a its.toArray from p) ?_
 refine ⟨s1.heap.objs.size,[s1.heap.objs.size],_,_,H1,rfl,I1.kept (t':=s1.toks) fun b o e=>Heap.get?_push_of_some _ e,turn_tuple a _,⟨_,Heap.get?_push_size _ rfl,rfl,rfl⟩,fun b hb=>?_,q⟩
 have e:b=s1.heap.objs.size:=by simpa using hb
 subst e
 exact I1.fpOk (Nat.le_refl _) (I1.hok.fresh (Nat.le_refl _))
theorem range_it {pins:List (Addr×Obj)} {σ:St} {H:Hp} {s:Shared} {R:It->Hp->Prop} {E:Value->Shared->Prop} {lo hi:Int} {t u v:Tok} {tk:Nat} (I:Inv X pins σ H s) (h1:-(2 ^ 62)<=lo) (h2:lo < 2 ^ 62) (h3:-(2 ^ 62)<=hi) (h4:hi < 2 ^ 62)
  (q:R (Itr lo (hi - lo).toNat) H):wpAny (model X.prog X.w) X.A (pyIter (.ref s.heap.objs.size)) (PIE X pins σ tg R) E {s with heap:=s.heap.push {cls:=.type "range",data:=.fields #[.int lo t,.int hi u,.int 1 v]},toks:=tk}:=by
 refine wpAny_pyIter_range (IsRange.new ..) (small_one h1 h2 h3 h4) ?_
 have I1:Inv X pins σ H {s with heap:=s.heap.push {cls:=.type "range",data:=.fields #[.int lo t,.int hi u,.int 1 v]},toks:=tk}:=I.kept fun b o e=>Heap.get?_push_of_some _ e
 refine ⟨(s.heap.push {cls:=.type "range",data:=.fields #[.int lo t,.int hi u,.int 1 v]}).objs.size,[(s.heap.push {cls:=.type "range",data:=.fields #[.int lo t,.int hi u,.int 1 v]}).objs.size],_,_,H,rfl,
  I1.kept (t':=tk) fun b o e=>Heap.get?_push_of_some _ e,turn_range _ lo (hi - lo).toNat,?_,fun b hb=>?_,q⟩
 ·have e1:lo+((0:Nat):Int)*1=lo:=by simp
  have e2:(((hi - lo).toNat:Nat):Int) - ((0:Nat):Int)=Builtin.Range.rangeSize lo hi 1:=by rw [rangeSize_one];split <;> omega
  show IsRangeIter _ _ (lo+((0:Nat):Int)*1) ((((hi - lo).toNat:Nat):Int) - ((0:Nat):Int)) 1
  rw [e1,e2]
  exact Heap.get?_push_size _ rfl
 ·have e:b=(s.heap.push {cls:=.type "range",data:=.fields #[.int lo t,.int hi u,.int 1 v]}).objs.size:=by simpa using hb
  subst e
  exact I1.fpOk (Nat.le_refl _) (I1.hok.fresh (Nat.le_refl _))
def iRng1 (ta:TA):TI:=fun σ H R=>ta σ H fun vs H1=>∃j:Int,vs=[.int j]/\-(2 ^ 62)<=j/\j < 2 ^ 62/\R (Itr 0 j.toNat) H1
theorem pi_range1 {a:Expr} {ta:TA} {p pos:Pos} (hg:Gl X "range") (hm:X.mg "range"=none) (ha:PA X [a] ta) (hs:starEach [a] X.env=[(false,eval a X.env)]:=by rfl):PI X tg (.Call (.Name "range" p) [a] [] pos) (iRng1 ta):=by
 intro pins s σ H R I h
 refine Call_ (ld_blt I hg hm boot_range (PyProof.Rows.callWith_type1 (thn (ha pos pins s σ H _ I h) fun us s1 ⟨vs,H1,I1,r1,q1⟩=>?_) hs rfl))
 obtain ⟨j,e,q1,q2,q⟩:=q1
 subst e
 cases r1 with
 |cons r rr=>
  cases rr
  obtain ⟨t,rfl⟩:=r
  exact call_range_1 (range_it I1 (by omega) (by omega) q1 q2 (by simpa using q))
def tFor (wi:TI) (g:TG) (tb:TS):TS:=fun D σ H=>wi σ H fun J H1=>∃W:Nat->Nat->St->Hp->Prop,(∃m,W 0 m σ H1)/\∀i m σ H,W i m σ H->
 (J.stop i H/\D.nx σ H)\/(J.go i H/\∃N:St->Hp->Prop,(∀σ' H',N σ' H'->∃m',m' < m/\W (i+1) m' σ' H')/\∀x H',J.yld i H x H'->g x σ H' fun σ2 H2=>tb {D with nx:=N,ct:=N,bk:=D.nx} σ2 H2)
def pinsAt (fp:List Addr) (h:Heap):List (Addr×Obj):=fp.filterMap fun b=>(h.get? b).map fun o=>(b,o)
theorem mem_pinsAt {fp:List Addr} {h:Heap} {b:Addr} {o:Obj} (hb:b∈fp) (e:h.get? b=some o):(b,o)∈pinsAt fp h:=List.mem_filterMap.mpr ⟨b,hb,by rw [e];rfl⟩
theorem of_pinsAt {fp:List Addr} {h:Heap} {p:Addr×Obj} (hp:p∈pinsAt fp h):p.1∈fp/\h.get? p.1=some p.2:=by
 obtain ⟨b,hb,e⟩:=List.mem_filterMap.mp hp
 cases q:h.get? b with
 |none=>rw [q] at e;cases e
 |some o=>
  rw [q] at e
  have e':(b,o)=p:=Option.some.inj e
  subst e'
  exact ⟨hb,q⟩
theorem Inv.pinned {pins:List (Addr×Obj)} {σ:St} {H:Hp} {s:Shared} {fp:List Addr} (I:Inv X pins σ H s) (hf:∀b∈fp,FpOk X pins H b) (ho:∀b∈fp,∃o,s.heap.get? b=some o/\∀v,o.data≠.cell v):Inv X (pins++pinsAt fp s.heap) σ H s:=
 I.pins_of fun p hp=>(List.mem_append.mp hp).elim (fun z=>I.pin p (List.mem_append_right _ z)) fun z=>by
  obtain ⟨hb,e⟩:=of_pinsAt z
  obtain ⟨f0,f1,f2,_⟩:=hf p.1 hb
  obtain ⟨o,e',d⟩:=ho p.1 hb
  rw [e] at e';cases e'
  exact ⟨e,f0,f1,f2,d⟩
theorem Inv.unpinned {pins pl:List (Addr×Obj)} {σ:St} {H:Hp} {s:Shared} (I:Inv X (pins++pl) σ H s):Inv X pins σ H s:=I.pins_of fun p hp=>I.pin p (List.mem_append_right _ (List.mem_append_left _ hp))
theorem ps_for {iter:Expr} {body:List Stmt} {wi:TI} {g:TG} {tb:TS} {pos:Pos} (hp:PassesOwn (model X.prog X.w) X.A X.env X.xe) (hc:X.calm=true) (hi:PI X tg iter wi) (hg:PG X tg g) (hb:PSs X body tb)
  (hs:∀x,foldedSetIterable iter X.env x=pure x:=by intro _;rfl):PS X (.For tg iter body [] pos) (tFor wi g tb):=by
 intro pins s σ H D I h
 refine wpAny_For (thn (hi pins s σ H _ I h) fun v s1 h1=>thn h1 fun itv s2 h2=>?_) hs
 obtain ⟨it,fp,tn,J,H2,e,I2,T,st2,f2,W,⟨m0,w0⟩,turn⟩:=h2
 subst e
 have stat:∀{H':Hp},(∀b∈fp,H' b=none)->∀b∈fp,FpOk X pins H' b:=fun hn b hb=>⟨hn b hb,(f2 b hb).2⟩
 refine codeAny_forLoop_any (fun n s'=>∃i σ' H',Inv X pins σ' H' s'/\tn i s'.heap/\(∀b∈fp,H' b=none)/\W i n σ' H') ?_ m0 ⟨0,σ,H2,I2,st2,fun b hb=>(f2 b hb).1,w0⟩
 rintro n s3 ⟨i,σ3,H3,I3,st3,fr3,w3⟩
 rcases turn i n σ3 H3 w3 with ⟨stop,qn⟩|⟨go,N,hN,step⟩
 ·refine wpAny_passesOwn hp (thn (T.done X rfl rfl rfl hc i pins s3 σ3 H3 X.xe I3 (stat fr3) st3 stop) fun r s4 ⟨hr,I4⟩=>?_)
  subst hr
  exact wpAny_execs_nil ⟨σ3,H3,I4,qn⟩
 ·refine wpAny_passesOwn hp (thn (T.item X rfl rfl rfl hc i pins s3 σ3 H3 X.xe I3 (stat fr3) st3 go) fun r s4 ⟨u,hr,h4⟩=>?_)
  subst hr
  refine wpAny_passesOwn hp (thn h4 fun _ s5 ⟨x,H5,I5,r5,y5,st5,fr5⟩=>?_)
  have I5':=I5.pinned (stat fr5) (T.obj _ _ st5)
  refine wpAny_passesOwn hp (thn (hg _ s5 σ3 H5 x u _ I5' r5 (step x H5 y5)) fun _ s6 ⟨σ6,H6,I6,q6⟩=>?_)
  refine wpAny_passesOwn hp (thn (hb _ s6 σ6 H6 _ I6 q6) fun f s7 q7=>?_)
  have again:∀{σ7:St} {H7:Hp},Inv X (pins++pinsAt fp s5.heap) σ7 H7 s7->N σ7 H7->∃m,m < n/\∃i σ' H',Inv X pins σ' H' s7/\tn i s7.heap/\(∀b∈fp,H' b=none)/\W i m σ' H':=fun {σ7 H7} I7 n7=>by
   obtain ⟨m',hm,w7⟩:=hN σ7 H7 n7
   refine ⟨m',hm,i+1,σ7,H7,I7.unpinned,T.keep _ _ _ st5 fun b hb o e=>(I7.pin (b,o) (List.mem_append_right _ (List.mem_append_right _ (mem_pinsAt hb e)))).1,fun b hb=>?_,w7⟩
   obtain ⟨o,e,d⟩:=T.obj _ _ st5 b hb
   exact (I7.pin (b,o) (List.mem_append_right _ (List.mem_append_right _ (mem_pinsAt hb e)))).2.1
  cases f with
  |next=>obtain ⟨σ7,H7,I7,n7⟩:=q7;exact again I7 n7
  |cont=>obtain ⟨σ7,H7,I7,n7⟩:=q7;exact again I7 n7
  |brk=>obtain ⟨σ7,H7,I7,q7⟩:=q7;exact ⟨σ7,H7,I7.unpinned,q7⟩
  |ret v=>obtain ⟨x7,σ7,H7,I7,r7,q7⟩:=q7;exact ⟨x7,σ7,H7,I7.unpinned,r7,q7⟩
end
theorem for_list {K:W.Frag} {a:Addr} {xs:List V} {g:TG} {tb:TS} {D:Ends} {σ:St} {H:Hp} (Pv:Nat->St->Hp->Prop) (h0:Pv 0 σ H) (hl:∀i σ H,i<=xs.length->Pv i σ H->SqL K H a xs)
  (hs:∀i x σ H,xs[i]?=some x->Pv i σ H->g x σ H fun σ2 H2=>tb {D with nx:=Pv (i+1),ct:=Pv (i+1),bk:=D.nx} σ2 H2) (hd:∀σ H,Pv xs.length σ H->D.nx σ H):
  ∃W:Nat->Nat->St->Hp->Prop,(∃m,W 0 m σ H)/\∀i m σ H,W i m σ H->
   ((Itl K a).stop i H/\D.nx σ H)\/((Itl K a).go i H/\∃N:St->Hp->Prop,(∀σ' H',N σ' H'->∃m',m' < m/\W (i+1) m' σ' H')/\∀x H',(Itl K a).yld i H x H'->g x σ H' fun σ2 H2=>tb {D with nx:=N,ct:=N,bk:=D.nx} σ2 H2):=by
 refine ⟨fun i m σ H=>m=xs.length - i/\i<=xs.length/\Pv i σ H,⟨xs.length,by simp,Nat.zero_le _,h0⟩,?_⟩
 rintro i m σ H ⟨rfl,hi,p⟩
 have q:=hl i σ H hi p
 by_cases hlt:i < xs.length
 ·refine .inr ⟨⟨xs,xs[i],q,by simp [hlt]⟩,Pv (i+1),fun σ' H' p'=>⟨xs.length - (i+1),by omega,rfl,hlt,p'⟩,fun x H' y=>?_⟩
  obtain ⟨e,y⟩:=y
  subst e
  exact hs i x σ _ (y xs q) p
 ·have e:i=xs.length:=by omega
  subst e
  exact .inl ⟨⟨xs,q,Nat.le_refl _⟩,hd σ H p⟩
theorem for_tup {K:W.Frag} {a:Addr} {xs:List V} {g:TG} {tb:TS} {D:Ends} {σ:St} {H:Hp} (Pv:Nat->St->Hp->Prop) (h0:Pv 0 σ H) (hl:∀i σ H,i<=xs.length->Pv i σ H->SqT K H a xs)
  (hs:∀i x σ H,xs[i]?=some x->Pv i σ H->g x σ H fun σ2 H2=>tb {D with nx:=Pv (i+1),ct:=Pv (i+1),bk:=D.nx} σ2 H2) (hd:∀σ H,Pv xs.length σ H->D.nx σ H):
  ∃W:Nat->Nat->St->Hp->Prop,(∃m,W 0 m σ H)/\∀i m σ H,W i m σ H->
   ((Itt K a).stop i H/\D.nx σ H)\/((Itt K a).go i H/\∃N:St->Hp->Prop,(∀σ' H',N σ' H'->∃m',m' < m/\W (i+1) m' σ' H')/\∀x H',(Itt K a).yld i H x H'->g x σ H' fun σ2 H2=>tb {D with nx:=N,ct:=N,bk:=D.nx} σ2 H2):=by
 refine ⟨fun i m σ H=>m=xs.length - i/\i<=xs.length/\Pv i σ H,⟨xs.length,by simp,Nat.zero_le _,h0⟩,?_⟩
 rintro i m σ H ⟨rfl,hi,p⟩
 have q:=hl i σ H hi p
 by_cases hlt:i < xs.length
 ·refine .inr ⟨⟨xs,xs[i],q,by simp [hlt]⟩,Pv (i+1),fun σ' H' p'=>⟨xs.length - (i+1),by omega,rfl,hlt,p'⟩,fun x H' y=>?_⟩
  obtain ⟨e,y⟩:=y
  subst e
  exact hs i x σ _ (y xs q) p
 ·have e:i=xs.length:=by omega
  subst e
  exact .inl ⟨⟨xs,q,Nat.le_refl _⟩,hd σ H p⟩
theorem for_range {lo:Int} {n:Nat} {g:TG} {tb:TS} {D:Ends} {σ:St} {H:Hp} (Pv:Nat->St->Hp->Prop) (h0:Pv 0 σ H)
  (hs:∀i σ H,i < n->Pv i σ H->g (.int (lo+i)) σ H fun σ2 H2=>tb {D with nx:=Pv (i+1),ct:=Pv (i+1),bk:=D.nx} σ2 H2) (hd:∀σ H,Pv n σ H->D.nx σ H):
  ∃W:Nat->Nat->St->Hp->Prop,(∃m,W 0 m σ H)/\∀i m σ H,W i m σ H->
   ((Itr lo n).stop i H/\D.nx σ H)\/((Itr lo n).go i H/\∃N:St->Hp->Prop,(∀σ' H',N σ' H'->∃m',m' < m/\W (i+1) m' σ' H')/\∀x H',(Itr lo n).yld i H x H'->g x σ H' fun σ2 H2=>tb {D with nx:=N,ct:=N,bk:=D.nx} σ2 H2):=by
 refine ⟨fun i m σ H=>m=n - i/\i<=n/\Pv i σ H,⟨n,by simp,Nat.zero_le _,h0⟩,?_⟩
 rintro i m σ H ⟨rfl,hi,p⟩
 by_cases hlt:i < n
 ·refine .inr ⟨hlt,Pv (i+1),fun σ' H' p'=>⟨n - (i+1),by omega,rfl,hlt,p'⟩,fun x H' y=>?_⟩
  obtain ⟨e,y⟩:=y
  subst e y
  exact hs i σ _ hlt p
 ·have e:i=n:=by omega
  subst e
  exact .inl ⟨Nat.le_refl _,hd σ H p⟩
abbrev R2:=V->V->Hp->VK->Prop
def OpR (X:Cx) (f:Value->Value->Sem Value) (r:R2):Prop:=
 ∀(pins:List (Addr×Obj)) (s:Shared) (σ:St) (H:Hp) (x y:V) (v u:Value) (Q:VK),Inv X pins σ H s->RelV x v->RelV y u->r x y H Q->
  wpAny (model X.prog X.w) X.A (f v u) (EP X pins σ Q) X.xe s
def UnR (X:Cx) (f:Value->Sem Value) (r:V->Hp->VK->Prop):Prop:=
 ∀(pins:List (Addr×Obj)) (s:Shared) (σ:St) (H:Hp) (x:V) (v:Value) (Q:VK),Inv X pins σ H s->RelV x v->r x H Q->
  wpAny (model X.prog X.w) X.A (f v) (EP X pins σ Q) X.xe s
def CallR (X:Cx) (f:Value) (r:List V->Hp->VK->Prop):Prop:=
 ∀(pins:List (Addr×Obj)) (s:Shared) (σ:St) (H:Hp) (xs:List V) (us:List Value) (Q:VK),Inv X pins σ H s->Vals xs us->r xs H Q->
  wpAny (model X.prog X.w) X.A (call f us) (EP X pins σ Q) X.xe s
def TruR (X:Cx) (r:V->Hp->(Bool->Hp->Prop)->Prop):Prop:=
 ∀(pins:List (Addr×Obj)) (s:Shared) (σ:St) (H:Hp) (x:V) (v:Value) (Q:Bool->Hp->Prop),Inv X pins σ H s->RelV x v->r x H Q->
  wpAny (model X.prog X.w) X.A (truthy v) (TP X pins σ Q) X.xe s
def tOp (r:R2) (ta tb:TE):TE:=fun σ H Q=>ta σ H fun x H1=>tb σ H1 fun y H2=>r x y H2 Q
def tUn (r:V->Hp->VK->Prop) (ta:TE):TE:=fun σ H Q=>ta σ H fun x H1=>r x H1 Q
def rI (C:Int->Int->Prop) (g:Int->Int->V):R2:=fun x y H Q=>∃i j,x=.int i/\y=.int j/\C i j/\Q (g i j) H
def rI0 (g:Int->Int->V):R2:=fun x y H Q=>∃i j,x=.int i/\y=.int j/\Q (g i j) H
def rU (g:Int->V):V->Hp->VK->Prop:=fun x H Q=>∃i,x=.int i/\Q (g i) H
section
variable {X:Cx} {a b c:Expr} {ta tb tc:TE} {pos:Pos}
theorem binT (ha:PE X a ta) (hb:PE X b tb) {pins:List (Addr×Obj)} {s:Shared} {σ:St} {H:Hp} {R:V->V->Hp->Prop} (I:Inv X pins σ H s)
  (h:ta σ H fun x H1=>tb σ H1 fun y H2=>R x y H2) {Q:Value->Shared->Prop} {f:Value->Value->Sem Value}
  (hf:∀v u s2 x y H2,Inv X pins σ H2 s2->RelV x v->RelV y u->R x y H2->wpAny (model X.prog X.w) X.A (f v u) Q X.xe s2):
  wpAny (model X.prog X.w) X.A (eval a X.env) (fun v s₁=>wpAny (model X.prog X.w) X.A (eval b X.env) (fun u s₂=>wpAny (model X.prog X.w) X.A (f v u) Q X.xe s₂) X.xe s₁) X.xe s:=by
 refine thn (ha pins s σ H _ I h) fun v s1 ⟨x,H1,I1,r1,q1⟩=>?_
 refine thn (hb pins s1 σ H1 _ I1 q1) fun u s2 ⟨y,H2,I2,r2,q2⟩=>?_
 exact hf v u s2 x y H2 I2 r1 r2 q2
theorem pe_op {op:Operator} {r:R2} (ho:OpR X (binaryOp op) r) (ha:PE X a ta) (hb:PE X b tb):PE X (.BinOp a op b pos) (tOp r ta tb):=by
 intro pins s σ H Q I h
 exact wpAny_BinOp (binT ha hb I h fun v u s2 x y H2 I2 rx ry q=>ho pins s2 σ H2 x y v u Q I2 rx ry q)
theorem pe_un {op:UnaryOp} {r:V->Hp->VK->Prop} (ho:UnR X (unaryOp op) r) (ha:PE X a ta):PE X (.UnaryOp op a pos) (tUn r ta):=by
 intro pins s σ H Q I h
 exact UnaryOp_ (thn (ha pins s σ H _ I h) fun v s1 ⟨x,H1,I1,r1,q1⟩=>ho pins s1 σ H1 x v Q I1 r1 q1)
theorem opI {f:Value->Value->Sem Value} {C:Int->Int->Prop} {g:Int->Int->Int}
  (rule:∀(i j:Int) (t u:Tok) (s:Shared) (Q:Value->Shared->Prop) (E:Value->Shared->Prop),C i j->Q (.int (g i j) s.toks) {s with toks:=s.toks+1}->wpAny (model X.prog X.w) X.A (f (.int i t) (.int j u)) Q E s):
  OpR X f (rI C fun i j=>.int (g i j)):=by
 intro pins s σ H x y v u Q I rx ry h
 obtain ⟨i,j,rfl,rfl,hc,q⟩:=h
 obtain ⟨t,rfl⟩:=rx
 obtain ⟨t',rfl⟩:=ry
 exact rule i j t t' s _ _ hc ⟨.int (g i j),H,I.tok _,⟨_,rfl⟩,q⟩
theorem opI0 {f:Value->Value->Sem Value} {g:Int->Int->Int}
  (rule:∀(i j:Int) (t u:Tok) (s:Shared) (Q:Value->Shared->Prop) (E:Value->Shared->Prop),Q (.int (g i j) s.toks) {s with toks:=s.toks+1}->wpAny (model X.prog X.w) X.A (f (.int i t) (.int j u)) Q E s):
  OpR X f (rI0 fun i j=>.int (g i j)):=by
 intro pins s σ H x y v u Q I rx ry h
 obtain ⟨i,j,rfl,rfl,q⟩:=h
 obtain ⟨t,rfl⟩:=rx
 obtain ⟨t',rfl⟩:=ry
 exact rule i j t t' s _ _ ⟨.int (g i j),H,I.tok _,⟨_,rfl⟩,q⟩
theorem opB0 {f:Value->Value->Sem Value} {g:Int->Int->Bool}
  (rule:∀(i j:Int) (t u:Tok) (s:Shared) (Q:Value->Shared->Prop) (E:Value->Shared->Prop),Q (.bool (g i j)) s->wpAny (model X.prog X.w) X.A (f (.int i t) (.int j u)) Q E s):
  OpR X f (rI0 fun i j=>.bl (g i j)):=by
 intro pins s σ H x y v u Q I rx ry h
 obtain ⟨i,j,rfl,rfl,q⟩:=h
 obtain ⟨t,rfl⟩:=rx
 obtain ⟨t',rfl⟩:=ry
 exact rule i j t t' s _ _ ⟨.bl (g i j),H,I,rfl,q⟩
def CMul (i j:Int):Prop:=(-(2 ^ 64) < i/\i < 2 ^ 64)\/(-(2 ^ 64) < j/\j < 2 ^ 64)
theorem CMul.ok {i j:Int} (h:CMul i j):IntMulOk i j:=by
 rcases h with ⟨h1,h2⟩|⟨h1,h2⟩
 ·exact .of_left (intBits_le_64 h1 h2)
 ·exact .of_right (intBits_le_64 h1 h2)
theorem two_pow_nn (k:Nat):(0:Int)<=2 ^ k:=by
 rw [two_pow_cast]
 exact Int.natCast_nonneg _
theorem op_add:OpR X (binaryOp .Add) (rI0 fun i j=>.int (i+j)):=opI0 fun _ _ _ _ _ _ _ q=>add_int q
theorem op_sub:OpR X (binaryOp .Sub) (rI0 fun i j=>.int (i - j)):=opI0 fun _ _ _ _ _ _ _ q=>sub_int q
theorem op_mul:OpR X (binaryOp .Mult) (rI CMul fun i j=>.int (i*j)):=opI fun _ _ _ _ _ _ _ hc q=>mul_int q hc.ok
theorem op_mod:OpR X (binaryOp .Mod) (rI (fun _ j=>0 < j) fun i j=>.int (i % j)):=opI fun i j _ _ _ _ _ hc q=>by
 have h1:(0:Int) < j:=hc
 exact mod_int' (by omega) (by rw [Int.fmod_eq_emod_of_nonneg i (by omega)];exact q)
theorem op_shr:OpR X (binaryOp .RShift) (rI (fun _ j=>0<=j) fun i j=>.int (i / 2 ^ j.toNat)):=opI fun i j _ _ _ _ _ hc q=>
 rshift_int hc (by rw [Int.fdiv_eq_ediv_of_nonneg i (two_pow_nn _)];exact q)
theorem op_and:OpR X (binaryOp .BitAnd) (rI0 fun i j=>.int (Builtin.bitAnd i j)):=opI0 fun _ _ _ _ _ _ _ q=>and_int q
theorem op_or:OpR X (binaryOp .BitOr) (rI0 fun i j=>.int (Builtin.bitOr i j)):=opI0 fun _ _ _ _ _ _ _ q=>or_int q
theorem op_xor:OpR X (binaryOp .BitXor) (rI0 fun i j=>.int (Builtin.bitXor i j)):=opI0 fun _ _ _ _ _ _ _ q=>xor_int q
theorem unI {f:Value->Sem Value} {g:Int->Int}
  (rule:∀(i:Int) (t:Tok) (s:Shared) (Q:Value->Shared->Prop) (E:Value->Shared->Prop),Q (.int (g i) s.toks) {s with toks:=s.toks+1}->wpAny (model X.prog X.w) X.A (f (.int i t)) Q E s):
  UnR X f (rU fun i=>.int (g i)):=by
 intro pins s σ H x v Q I rx h
 obtain ⟨i,rfl,q⟩:=h
 obtain ⟨t,rfl⟩:=rx
 exact rule i t s _ _ ⟨.int (g i),H,I.tok _,⟨_,rfl⟩,q⟩
theorem un_neg:UnR X (unaryOp .USub) (rU fun i=>.int (-i)):=unI fun _ _ _ _ _ q=>neg_int q
end
def scal:V->V->Bool
 |.non,.non=>true|.non,.int _=>true|.int _,.non=>true|.non,.bl _=>true|.bl _,.non=>true|.non,.str _=>true|.str _,.non=>true
 |.int _,.int _=>true|.bl _,.bl _=>true|.str _,.str _=>true|.byt _,.byt _=>true
 |.int _,.str _=>true|.str _,.int _=>true|.bl _,.str _=>true|.str _,.bl _=>true
 |_,_=>false
def rEq:R2:=fun x y H Q=>scal x y=true/\Q (.bl (decide (x=y))) H
def rNe:R2:=fun x y H Q=>scal x y=true/\Q (.bl (!decide (x=y))) H
theorem dec_int {i j:Int}:decide (V.int i=V.int j)=(i == j):=by
 rw [Bool.eq_iff_iff]
 simp
theorem dec_bl {i j:Bool}:decide (V.bl i=V.bl j)=(i == j):=by
 rw [Bool.eq_iff_iff]
 simp
theorem dec_str {i j:Str}:decide (V.str i=V.str j)=(i == j):=by
 rw [Bool.eq_iff_iff]
 simp
theorem dec_byt {i j:Array UInt8}:decide (V.byt i=V.byt j)=(i.toList == j.toList):=by
 rw [Bool.eq_iff_iff]
 cases i
 cases j
 simp
section
variable {X:Cx} {a b c:Expr} {ta tb tc:TE} {pos:Pos}
theorem fin_bl {pins:List (Addr×Obj)} {σ:St} {H:Hp} {s:Shared} {Q:VK} {k k':Bool} (I:Inv X pins σ H s) (q:Q (.bl k) H) (e:k=k'):EP X pins σ Q (.bool k') s:=by
 subst e
 exact ⟨.bl k,H,I,rfl,q⟩
theorem op_eq:OpR X (compareOp .Eq) rEq:=by
 intro pins s σ H x y v u Q I rx ry h
 obtain ⟨hs,q⟩:=h
 cases x with
 |non=>
  cases rx
  cases y with
  |non=>cases ry;exact PySem.EqNone.eq_none_none (fin_bl I q (by simp))
  |bl j=>cases ry;exact PySem.EqNone.eq_none_bool (fin_bl I q (by simp))
  |int j=>obtain ⟨t',rfl⟩:=ry;exact PySem.EqNone.eq_none_int (fin_bl I q (by simp))
  |str j=>obtain ⟨t',rfl⟩:=ry;exact PySem.EqNone.eq_none_str (fin_bl I q (by simp))
  |_=>exact absurd (show false=true from hs) Bool.false_ne_true
 |bl i=>
  cases rx
  cases y with
  |non=>cases ry;exact PySem.EqNone.eq_bool_none (fin_bl I q (by simp))
  |bl j=>cases ry;exact eq_bool (fin_bl I q dec_bl)
  |str j=>obtain ⟨t',rfl⟩:=ry;exact PySem.EqMixed.eq_bool_str (fin_bl I q (by simp))
  |_=>exact absurd (show false=true from hs) Bool.false_ne_true
 |int i=>
  obtain ⟨t,rfl⟩:=rx
  cases y with
  |non=>cases ry;exact PySem.EqNone.eq_int_none (fin_bl I q (by simp))
  |int j=>obtain ⟨t',rfl⟩:=ry;exact eq_int (fin_bl I q dec_int)
  |str j=>obtain ⟨t',rfl⟩:=ry;exact PySem.EqMixed.eq_int_str (fin_bl I q (by simp))
  |_=>exact absurd (show false=true from hs) Bool.false_ne_true
 |str i=>
  obtain ⟨t,rfl⟩:=rx
  cases y with
  |non=>cases ry;exact PySem.EqNone.eq_str_none (fin_bl I q (by simp))
  |bl j=>cases ry;exact PySem.EqMixed.eq_str_bool (fin_bl I q (by simp))
  |int j=>obtain ⟨t',rfl⟩:=ry;exact PySem.EqMixed.eq_str_int (fin_bl I q (by simp))
  |str j=>obtain ⟨t',rfl⟩:=ry;exact eq_str (fin_bl I q dec_str)
  |_=>exact absurd (show false=true from hs) Bool.false_ne_true
 |byt i=>
  obtain ⟨t,rfl⟩:=rx
  cases y with
  |byt j=>obtain ⟨t',rfl⟩:=ry;exact PySem.W.eq_bytes (fin_bl I q dec_byt)
  |_=>exact absurd (show false=true from hs) Bool.false_ne_true
 |_=>cases y <;> exact absurd (show false=true from hs) Bool.false_ne_true
theorem op_ne:OpR X (compareOp .NotEq) rNe:=by
 intro pins s σ H x y v u Q I rx ry h
 obtain ⟨hs,q⟩:=h
 cases x with
 |non=>
  cases rx
  cases y with
  |non=>cases ry;exact PySem.EqNone.ne_none_none (fin_bl I q (by simp))
  |bl j=>cases ry;exact PySem.EqNone.ne_none_bool (fin_bl I q (by simp))
  |int j=>obtain ⟨t',rfl⟩:=ry;exact PySem.EqNone.ne_none_int (fin_bl I q (by simp))
  |str j=>obtain ⟨t',rfl⟩:=ry;exact PySem.EqNone.ne_none_str (fin_bl I q (by simp))
  |_=>exact absurd (show false=true from hs) Bool.false_ne_true
 |bl i=>
  cases rx
  cases y with
  |non=>cases ry;exact PySem.EqNone.ne_bool_none (fin_bl I q (by simp))
  |bl j=>cases ry;exact ne_bool (fin_bl I q (congrArg not dec_bl))
  |str j=>obtain ⟨t',rfl⟩:=ry;exact PySem.EqMixed.ne_bool_str (fin_bl I q (by simp))
  |_=>exact absurd (show false=true from hs) Bool.false_ne_true
 |int i=>
  obtain ⟨t,rfl⟩:=rx
  cases y with
  |non=>cases ry;exact PySem.EqNone.ne_int_none (fin_bl I q (by simp))
  |int j=>obtain ⟨t',rfl⟩:=ry;exact ne_int (fin_bl I q (congrArg not dec_int))
  |str j=>obtain ⟨t',rfl⟩:=ry;exact PySem.EqMixed.ne_int_str (fin_bl I q (by simp))
  |_=>exact absurd (show false=true from hs) Bool.false_ne_true
 |str i=>
  obtain ⟨t,rfl⟩:=rx
  cases y with
  |non=>cases ry;exact PySem.EqNone.ne_str_none (fin_bl I q (by simp))
  |bl j=>cases ry;exact PySem.EqMixed.ne_str_bool (fin_bl I q (by simp))
  |int j=>obtain ⟨t',rfl⟩:=ry;exact PySem.EqMixed.ne_str_int (fin_bl I q (by simp))
  |str j=>obtain ⟨t',rfl⟩:=ry;exact ne_str (fin_bl I q (congrArg not dec_str))
  |_=>exact absurd (show false=true from hs) Bool.false_ne_true
 |byt i=>
  obtain ⟨t,rfl⟩:=rx
  cases y with
  |byt j=>obtain ⟨t',rfl⟩:=ry;exact PySem.W.ne_bytes (fin_bl I q (congrArg not dec_byt))
  |_=>exact absurd (show false=true from hs) Bool.false_ne_true
 |_=>cases y <;> exact absurd (show false=true from hs) Bool.false_ne_true
theorem op_lt:OpR X (compareOp .Lt) (rI0 fun i j=>.bl (decide (i < j))):=opB0 fun _ _ _ _ _ _ _ q=>lt_int q
theorem op_le:OpR X (compareOp .LtE) (rI0 fun i j=>.bl (decide (i<=j))):=opB0 fun _ _ _ _ _ _ _ q=>le_int q
theorem op_gt:OpR X (compareOp .Gt) (rI0 fun i j=>.bl (decide (j < i))):=opB0 fun _ _ _ _ _ _ _ q=>gt_int q
theorem nomark (b:Expr) {op:CmpOp} (h:op≠.In:=by decide) (h2:op≠.NotIn:=by decide):behindInMarks op b=false:=by
 have e1:(op == CmpOp.In)=false:=by cases op <;> first|rfl|exact absurd rfl h
 have e2:(op == CmpOp.NotIn)=false:=by cases op <;> first|rfl|exact absurd rfl h2
 cases b <;> simp [behindInMarks,e1,e2]
theorem pe_cmpR {op:CmpOp} {r:R2} (ho:OpR X (compareOp op) r) (ha:PE X a ta) (hb:PE X b tb) (hm:behindInMarks op b=false):PE X (.Compare a [op] [b] pos) (tOp r ta tb):=by
 intro pins s σ H Q I h
 exact wpAny_Compare1 (binT ha hb I h fun v u s2 x y H2 I2 rx ry q=>ho pins s2 σ H2 x y v u Q I2 rx ry q) hm
def tTest (t:TE):TT:=fun σ H Q=>t σ H fun x H'=>∃k,x=.bl k/\Q k H'
theorem pt_cmpR {op:CmpOp} {r:R2} (ho:OpR X (compareOp op) r) (ha:PE X a ta) (hb:PE X b tb) (hm:behindInMarks op b=false):PT X (.Compare a [op] [b] pos) (tTest (tOp r ta tb)):=by
 intro pins s σ H Q I h
 refine wpAny_isTrue_Compare1 (thn (ha pins s σ H _ I h) fun v s1 ⟨x,H1,I1,r1,q1⟩=>thn (hb pins s1 σ H1 _ I1 q1) fun u s2 ⟨y,H2,I2,r2,q2⟩=>
  thn (ho pins s2 σ H2 x y v u _ I2 r1 r2 q2) fun c s3 ⟨z,H3,I3,r3,k,e,q3⟩=>?_) hm
 subst e
 cases r3
 exact wpAny_truthy_bool ⟨H3,I3,q3⟩
def TruV (K:W.Frag) (x:V) (H:Hp) (k:Bool):Prop:=
 match x with
 |.non=>k=false
 |.bl b=>k=b
 |.int i=>k=(i != 0)
 |.str y=>y.length<=sizeLine/\k=((y.length:Int) != 0)
 |.byt y=>y.size<=sizeLine/\k=((y.size:Int) != 0)
 |.ref p=>(∃xs,SqL K H p xs/\k=!xs.isEmpty)\/(∃xs,SqT K H p xs/\k=!xs.isEmpty)\/∃kvs,H p=some (.dK kvs)/\k=!kvs.isEmpty
 |_=>False
theorem isEmpty_kv {κ:Type} {kvs:List (κ×V)} {vs:List (κ×Value)} (r:KV kvs vs):(!vs.isEmpty)=!kvs.isEmpty:=by
 cases r <;> rfl
theorem isEmpty_of {xs:List V} {its:List Value} (r:Vals xs its):(!its.toArray.isEmpty)=!xs.isEmpty:=by
 cases r <;> simp
theorem line63:(sizeLine:Nat) < 2 ^ 63:=by rw [sizeLine_eq];decide
theorem tru_ok:TruR X (fun x H Q=>∃k,TruV X.K x H k/\Q k H):=by
 intro pins s σ H x v Q I rx h
 obtain ⟨k,e,q⟩:=h
 have hl:=line63
 have hs:sizeLine=16777216:=sizeLine_eq
 cases x with
 |non=>
  cases rx
  have e':k=false:=e
  subst e'
  exact truthy_none ⟨H,I,q⟩
 |bl b=>
  cases rx
  have e':k=b:=e
  subst e'
  exact wpAny_truthy_bool ⟨H,I,q⟩
 |int i=>
  obtain ⟨t,rfl⟩:=rx
  have e':k=(i != 0):=e
  subst e'
  exact PySem.P.truthy_int ⟨H,I,q⟩
 |str y=>
  obtain ⟨t,rfl⟩:=rx
  obtain ⟨hy,e'⟩:y.length<=sizeLine/\k=((y.length:Int) != 0):=e
  subst e'
  exact PySem.P.truthy_str (by omega) ⟨H,I.tok _,q⟩
 |byt y=>
  obtain ⟨t,rfl⟩:=rx
  obtain ⟨hy,e'⟩:y.size<=sizeLine/\k=((y.size:Int) != 0):=e
  subst e'
  exact PySem.W.truthy_bytes (by omega) ⟨H,I.tok _,q⟩
 |ref p=>
  cases rx
  have e':(∃xs,SqL X.K H p xs/\k=!xs.isEmpty)\/(∃xs,SqT X.K H p xs/\k=!xs.isEmpty)\/∃kvs,H p=some (.dK kvs)/\k=!kvs.isEmpty:=e
  rcases e' with ⟨xs,hx,e'⟩|⟨xs,hx,e'⟩|⟨kvs,hx,e'⟩
  ·subst e'
   obtain ⟨its,r,pl,hz⟩:=I.list hx
   have hlen:=r.length
   exact wpAny_truthy_list pl.isList (by simp only [List.size_toArray];omega) ⟨H,I.tok _,by rw [isEmpty_of r];exact q⟩
  ·subst e'
   obtain ⟨its,r,pl,hz⟩:=I.tuple hx
   have hlen:=r.length
   exact truthy_tuple pl (by simp only [List.size_toArray];omega) ⟨H,I.tok _,by rw [isEmpty_of r];exact q⟩
  ·subst e'
   obtain ⟨hz,hS,vs,r,m⟩:kvs.length<=sizeLine/\(p == sysModules)=false/\∃vs,KV kvs vs/\s.heap.DictOf (mixKind X.prog X.w) p vs:=I.hok p _ hx
   have hlen:kvs.length=vs.length:=Paired.length r
   exact wpAny_truthy_dict hS m (by omega) ⟨H,I.tok _,by rw [isEmpty_kv r];exact q⟩
 |_=>exact (show False from e).elim
theorem pt_truth (ha:PE X a ta) (he:∀whole,isTrue a X.env whole=(do let v <-whole;standAt a.pos;holding [v] (truthy v))):
  PT X a (fun σ H Q=>ta σ H fun x H'=>∃k,TruV X.K x H' k/\Q k H'):=by
 intro pins s σ H Q I h
 exact isTrue_plain (thn (ha pins s σ H _ I h) fun v s1 ⟨x,H1,I1,r1,q1⟩=>tru_ok pins s1 σ H1 x v Q I1 r1 q1) (he _)
theorem vals1 {x:V} {us:List Value} (r:Vals [x] us):∃u,us=[u]/\RelV x u:=by
 cases r with
 |cons r1 r2=>cases r2;exact ⟨_,rfl,r1⟩
end
structure ObjM (h:Heap) (x dx C:Addr) (mA:Str->Option Value):Prop where
 obj:h.get? x=some (PySem.W.instObj C dx)
 ns:h.Ns1 dx mA
 ne:dx≠x
theorem lookIn_ns {h:Heap} {dx:Addr} {mA:Str->Option Value} (n:h.Ns1 dx mA):∃od,h.get? dx=some od/\∀name,PySem.W.lookIn name od=some (mA name):=by
 obtain ⟨o,es,ep,ho,hd,hk,_,hm⟩:=n
 refine ⟨o,ho,fun name=>?_⟩
 have e:=hm name
 unfold nsFind findBy at e
 rw [<-Array.find?_toList] at e
 unfold PySem.W.lookIn
 rw [hd]
 dsimp only
 split
 ·rename_i y q
  rw [q] at e
  exact congrArg some e
 ·rename_i q
  rw [q] at e
  have a:es.toList.any (·.refKey)=false:=by
   rw [List.any_eq_false]
   intro y hy
   obtain ⟨z,t,hkey⟩:=hk y (Array.mem_toList_iff.mp hy)
   simp [DictEntry.refKey,hkey]
  have a':¬es.toList.any (·.refKey)=true:=by rw [a];exact Bool.false_ne_true
  rw [if_neg a']
  exact congrArg some e
theorem ObjM.look {h:Heap} {x dx C:Addr} {mA:Str->Option Value} (I:ObjM h x dx C mA):∃od,PySem.W.InstAt h x (PySem.W.instObj C dx) C (some od)/\∀name,PySem.W.lookIn name od=some (mA name):=
 let ⟨od,ho,hl⟩:=lookIn_ns I.ns
 ⟨od,⟨I.obj,rfl,rfl,ho⟩,hl⟩
section
variable {prog:Program} {w:World} {A:Around} {E:Value->Shared->Prop} {s:Shared} {K:W.Frag} {x dx C f:Addr} {mA:Str->Option Value} {name:Str} {v:Value}
theorem get_map {expr:Bool} {Q:Value->Shared->Prop} (X:K.In s.heap) (I:ObjM s.heap x dx C mA) (hg:PySem.W.plainGet K C name=true) (hh:PySem.W.hasDictIn K C=true)
  (ha:PySem.W.findIn K (.ref C) name=some none) (hv:mA name=some v) (hv':PySem.W.handedIn v=true) (h:Q v {s with toks:=s.toks+1}):
  wpAny (model prog w) A (getAttr (.ref x) name expr) Q E s:=by
 obtain ⟨od,J,hl⟩:=I.look
 exact PySem.W.get_value X J (PySem.W.plainGet_of hg).1 (PySem.W.findObj_own hh ha rfl (by rw [hl,hv])) hv' h
theorem get_meth {pl:Sem Bool} {Q:Value×List Value->Shared->Prop} (X:K.In s.heap) (I:ObjM s.heap x dx C mA) (hg:PySem.W.plainGet K C name=true)
  (hf:PySem.W.findIn K (.ref C) name=some (some (.ref f))) (ht:PySem.W.isFn K (.ref f)=true) (hv:mA name=none) (h:Q (.ref f,[.ref x]) s):
  wpAny (model prog w) A (getMethod (.ref x) name pl) Q E s:=by
 obtain ⟨od,J,hl⟩:=I.look
 exact PySem.W.method_fn X J (PySem.W.plainGet_of hg).1 (PySem.W.plainGet_of hg).2 hf (beq_iff_eq.mp ht) (by show (PySem.W.lookIn name od).map (·.isSome)=some false;rw [hl,hv];rfl) h
theorem set_map {ns:List Str} {Q:Unit->Shared->Prop} (X:K.In s.heap) (I:ObjM s.heap x dx C mA)
  (hs:PySem.W.findIn K (.ref C) "__setattr__"=some (some (.builtin "object.__setattr__"))) (hp:PySem.W.plainOver K C=true) (ht:PySem.W.takerIn K C name=some none) (hh:PySem.W.hasDictIn K C=true)
  (hw:PySem.Within mA ns) (hsz:ns.length<=sizeLine)
  (h:∀h',ObjM h' x dx C (fun y=>if y=name then some v else mA y)->Heap.SameBut dx s.heap h'->Q () {s with heap:=h',toks:=s.toks+2}):
  wpAny (model prog w) A (setAttr (.ref x) name v) Q E s:=by
 obtain ⟨od,J,hl⟩:=I.look
 refine PySem.W.set_plain X J hs (PySem.W.osa_open (s:={s with toks:=s.toks+1}) (r:=none) X J hp ht fun b=>?_)
 obtain ⟨cd,hc,hd'⟩:=PySem.W.any_some hh
 have hx:s.heap.get? x=some ⟨.ref C,some dx,.plain,#[]⟩:=I.obj
 refine wpAny_bind (wpAny_pure (wpAny_bind (wpAny_bind (wpAny_loadPart hx (wpAny_bind (PySem.W.Looks.here (s:={s with toks:=s.toks+1}) (PySem.W.looks_clsIn X hc) ?_))))))
 rw [hd']
 refine wpAny_pure (a:=some dx) (wpAny_bind (wpAny_pure (wpAny_bind ?_)))
 refine wpAny_nsSet1 (s:={s with toks:=s.toks+1}) I.ns fun h' hn2 hs2=>?_
 obtain ⟨oD,esD,epD,hoD,hdD,hcD⟩:=hn2.count (PySem.Within.cons name v hw)
 refine wpAny_bind (wpAny_lookBehind hoD (by rw [hdD];exact pastItsLine_dict (Nat.le_trans hcD (by rw [List.length_cons];omega))) ?_)
 exact wpAny_pure (h _ ⟨(hs2.2 _ (Ne.symm I.ne)).trans I.obj,hn2,I.ne⟩ hs2)
theorem make_map {R:Result->Shared->Prop} {vs:List Value} {kw:List (Str×Value)} (X:K.In s.heap) (hm:PySem.W.makesIn K C=true)
  (hi:PySem.W.findIn K (.ref C) "__init__"=some (some (.ref f))) (hf:PySem.W.typeIn K (.ref f)=some (.type "function"))
  (h:codeAny (model prog w) (A.under (.builtin "type.__call__" ⟨.ref C::vs,kw⟩)) (.call (.ref f) ⟨.ref (s.heap.objs.size+1)::vs,kw⟩) (PySem.W.InitBack (s.heap.objs.size+1) R)
   {s with heap:=(s.heap.push PySem.W.emptyDict).push (PySem.W.instObj C s.heap.objs.size)}):
  codeAny (model prog w) A (.call (.ref C) ⟨vs,kw⟩) R s:=by
 obtain ⟨hh,g,d,t,os⟩:=s
 exact PySem.W.make_core (PySem.W.makes_of X hm) (PySem.W.looks_findIn X hi) (fun self=>PySem.W.bind_fn X self hf) (.inl rfl) h
end
def putF (f:Str) (v:V):List (Str×V)->List (Str×V)
 |[]=>[(f,v)]
 |(g,x)::r=>if g=f then (g,v)::r else (g,x)::putF f v r
theorem lookup_putF (f g:Str) (v:V):∀fs:List (Str×V),(putF f v fs).lookup g=if g=f then some v else fs.lookup g
 |[]=>by
  show List.lookup g [(f,v)]=_
  by_cases h:g=f
  ·have hb:(g == f)=true:=beq_iff_eq.mpr h
   simp only [List.lookup,hb,if_pos h]
  ·have hb:(g == f)=false:=beq_eq_false_iff_ne.mpr h
   simp only [List.lookup,hb,if_neg h]
 |(k,x)::r=>by
  have ih:=lookup_putF f g v r
  rw [show putF f v ((k,x)::r)=(if k=f then (k,v)::r else (k,x)::putF f v r) from rfl]
  by_cases hk:k=f
  ·rw [if_pos hk]
   by_cases h:g=k
   ·have hb:(g == k)=true:=beq_iff_eq.mpr h
    simp only [List.lookup,hb,if_pos (h.trans hk)]
   ·have hb:(g == k)=false:=beq_eq_false_iff_ne.mpr h
    simp only [List.lookup,hb,if_neg (fun e:g=f=>h (e.trans hk.symm))]
  ·rw [if_neg hk]
   by_cases h:g=k
   ·have hb:(g == k)=true:=beq_iff_eq.mpr h
    simp only [List.lookup,hb,if_neg (fun e:g=f=>hk (h.symm.trans e))]
   ·have hb:(g == k)=false:=beq_eq_false_iff_ne.mpr h
    simp only [List.lookup,hb]
    exact ih
theorem keys_putF (f:Str) (v:V):∀fs:List (Str×V),f∈(putF f v fs).map (·.1)/\∀g,g∈fs.map (·.1)->g∈(putF f v fs).map (·.1)
 |[]=>⟨by simp [putF],fun g h=>by simp at h⟩
 |(k,x)::r=>by
  obtain ⟨i1,i2⟩:=keys_putF f v r
  rw [show putF f v ((k,x)::r)=(if k=f then (k,v)::r else (k,x)::putF f v r) from rfl]
  by_cases hk:k=f
  ·rw [if_pos hk]
   subst hk
   exact ⟨by simp,fun g h=>by simpa using h⟩
  ·rw [if_neg hk]
   refine ⟨?_,fun g h=>?_⟩
   ·rw [List.map_cons]
    exact List.mem_cons_of_mem _ i1
   ·rw [List.map_cons] at h ⊢
    rcases List.mem_cons.mp h with e|e
    ·exact List.mem_cons.mpr (.inl e)
    ·exact List.mem_cons_of_mem _ (i2 g e)
theorem length_putF (f:Str) (v:V):∀fs:List (Str×V),(putF f v fs).length<=fs.length+1
 |[]=>by simp [putF]
 |(k,x)::r=>by
  have ih:=length_putF f v r
  rw [show putF f v ((k,x)::r)=(if k=f then (k,v)::r else (k,x)::putF f v r) from rfl]
  by_cases hk:k=f
  ·rw [if_pos hk,List.length_cons,List.length_cons];omega
  ·rw [if_neg hk,List.length_cons,List.length_cons];omega
theorem RelO.some_of {v:V} {o:Option Value} (r:RelO (some v) o):∃u,o=some u/\RelV v u:=by
 cases o with
 |none=>exact (show False from r).elim
 |some u=>exact ⟨u,rfl,r⟩
theorem RelO.none_of {o:Option Value} (r:RelO none o):o=none:=by
 cases o with
 |none=>rfl
 |some u=>exact (show False from r).elim
theorem handed_of {v:V} {u:Value} (r:RelV v u):PySem.W.handedIn u=true:=by
 cases v with
 |non=>cases (show u=Value.none from r);rfl
 |bl b=>cases (show u=Value.bool b from r);rfl
 |int i=>obtain ⟨t,e⟩:=(show ∃t,u=Value.int i t from r);cases e;rfl
 |str x=>obtain ⟨t,e⟩:=(show ∃t,u=Value.str x t from r);cases e;rfl
 |byt b=>obtain ⟨t,e⟩:=(show ∃t,u=Value.bytes b t from r);cases e;rfl
 |flt b=>obtain ⟨t,e⟩:=(show ∃t,u=Value.float b t from r);cases e;rfl
 |ref a=>cases (show u=Value.ref a from r);rfl
 |ty n=>cases (show u=Value.type n from r);rfl
section
variable {P:Program} {w:World} {H H':Hp} {h h':Heap} {a C dx:Addr} {fs fs':List (Str×V)}
theorem ins_get (hok:HOk P w H h) (e:H a=some (.ins C dx fs)):∃mA,ObjM h a dx C mA/\(∀f,RelO (fs.lookup f) (mA f))/\PySem.Within mA (fs.map (·.1))/\fs.length<=1000/\H dx=some (.own a):=by
 obtain ⟨d,z,ne,ob,mA,n,r,q⟩:=(show ObjOk P w H h a (.ins C dx fs) from hok a _ e)
 exact ⟨mA,⟨ob,n,ne⟩,r,q,z,d⟩
end
structure Cls (K:W.Frag) (C:Addr):Prop where
 pg:PySem.W.plainGet K C Str.empty=true
 hd:PySem.W.hasDictIn K C=true
 po:PySem.W.plainOver K C=true
 sa:PySem.W.findIn K (.ref C) "__setattr__"=some (some (.builtin "object.__setattr__"))
theorem Cls.get {K:W.Frag} {C:Addr} (c:Cls K C) (f:Str):PySem.W.plainGet K C f=true:=c.pg
def NoAttr (K:W.Frag) (C:Addr) (f:Str):Prop:=PySem.W.findIn K (.ref C) f=some none
theorem NoAttr.taker {K:W.Frag} {C:Addr} {f:Str} (n:NoAttr K C f):PySem.W.takerIn K C f=some none:=by
 unfold PySem.W.takerIn
 rw [show PySem.W.findIn K (.ref C) f=some none from n]
 rfl
structure Meth (K:W.Frag) (C:Addr) (m:Str) (f:Addr):Prop where
 at_:PySem.W.findIn K (.ref C) m=some (some (.ref f))
 fn:PySem.W.isFn K (.ref f)=true
 kp:PySem.W.keepIn K (.ref f)=true
section
variable {X:Cx} {pins:List (Addr×Obj)} {σ:St} {H:Hp} {s:Shared} {a C dx:Addr} {fs:List (Str×V)} {f:Str} {v:V} {A:Around} {E:Value->Shared->Prop}
theorem setattr_ok {y:V} {u:Value} {Q:Unit->Shared->Prop} (I:Inv X pins σ H s) (e:H a=some (.ins C dx fs)) (c:Cls X.K C) (n:NoAttr X.K C f) (hl:fs.length < 1000) (ry:RelV y u)
  (h:∀s',Inv X pins σ (upd H a (.ins C dx (putF f y fs))) s'->Q () s'):wpAny (model X.prog X.w) A (setAttr (.ref a) f u) Q E s:=by
 obtain ⟨mA,O,r,wi,_,ho⟩:=ins_get I.hok e
 have hz:(fs.map (·.1)).length<=sizeLine:=by rw [List.length_map,sizeLine_eq];omega
 refine set_map I.kIn O c.sa c.po n.taker c.hd wi hz fun h' O' sb=>h _ ?_
 have hd:∃o,h'.get? dx=some o:=let ⟨o,_,_,e',_⟩:=O'.ns;⟨o,e'⟩
 refine I.write (x:=a) (e:=dx) (by rw [e];exact True.intro) (.inr ho) (fun b q hb z=>(sb.2 b hb).trans z) hd ?_
 refine ⟨by rw [upd_ne O.ne];exact ho,?_,O.ne,O'.obj,_,O'.ns,fun g=>?_,fun g hg=>?_⟩
 ·have:=length_putF f y fs;omega
 ·show RelO ((putF f y fs).lookup g) (if g=f then some u else mA g)
  rw [lookup_putF]
  by_cases q:g=f
  ·rw [if_pos q,if_pos q];exact ry
  ·rw [if_neg q,if_neg q];exact r g
 ·by_cases q:g=f
  ·rw [q];exact (keys_putF f y fs).1
  ·refine (keys_putF f y fs).2 g (wi g fun z=>hg ?_)
   show (if g=f then some u else mA g)=none
   rw [if_neg q];exact z
theorem Inv.made (I:Inv X pins σ H s):Inv X pins σ (upd (upd H s.heap.objs.size (.own (s.heap.objs.size+1))) (s.heap.objs.size+1) (.ins C s.heap.objs.size []))
  {s with heap:=(s.heap.push PySem.W.emptyDict).push (PySem.W.instObj C s.heap.objs.size)}:=by
 have e1:(s.heap.push PySem.W.emptyDict).get? s.heap.objs.size=some PySem.W.emptyDict:=Heap.get?_push_size s.heap rfl
 have e2:((s.heap.push PySem.W.emptyDict).push (PySem.W.instObj C s.heap.objs.size)).get? (s.heap.objs.size+1)=some (PySem.W.instObj C s.heap.objs.size):=by
  have:=Heap.get?_push_size (s.heap.push PySem.W.emptyDict) (o:=PySem.W.instObj C s.heap.objs.size) rfl
  rwa [Heap.size_push] at this
 have e3:(s.heap.push PySem.W.emptyDict).Ns s.heap.objs.size (fun _=>none):=⟨PySem.W.emptyDict,#[],_,e1,rfl,(fun e he=>absurd he (by simp)),fun _=>rfl⟩
 have I1:=I.laid (a:=s.heap.objs.size) (o:=.own (s.heap.objs.size+1)) (h':=s.heap.push PySem.W.emptyDict) (t':=s.toks) (fun b u q=>Heap.get?_push_of_some _ q) (Nat.le_refl _) ⟨_,e1⟩
 refine I1.laid (a:=s.heap.objs.size+1) (o:=.ins C s.heap.objs.size []) (t':=s.toks) (fun b u q=>Heap.get?_push_of_some _ q) (Nat.le_of_eq (Heap.size_push _ _)) ?_
 have ne:s.heap.objs.size≠s.heap.objs.size+1:=Nat.ne_of_lt (Nat.lt_succ_self _)
 refine ⟨by rw [upd_ne ne,upd_same],Nat.zero_le _,ne,e2,fun _=>none,(Heap.Ns1.of_empty e3).at fun o q=>Heap.get?_push_of_some _ q,fun _=>True.intro,fun y hy=>absurd rfl hy⟩
theorem attr_of {prog:Program} {w:World} {env:Env} {e:Expr} {f:Str} {pos:Pos} {s:Shared} {Q:Value->Shared->Prop} (hb:attributeBase e f env (eval e env)=eval e env)
  (h:wpAny (model prog w) A (eval e env) (fun o s₁=>wpAny (model prog w) A (getAttr o f true) Q E s₁) E s):wpAny (model prog w) A (eval (.Attribute e f pos) env) Q E s:=
 Attribute_any_ h (by rw [arm_eval_Attribute,hb])
end
def sFld (K:W.Frag) (ta tv:TE) (f:Str):TS:=fun D σ H=>tv σ H fun y H1=>ta σ H1 fun x H2=>∃a C dx fs,x=.ref a/\H2 a=some (.ins C dx fs)/\Cls K C/\NoAttr K C f/\fs.length < 1000/\
 D.nx σ (upd H2 a (.ins C dx (putF f y fs)))
section
variable {X:Cx} {o e value:Expr} {f:Str} {pos pos' tpos:Pos} {ta tv:TE}
theorem ps_fld (ha:PE X o ta) (hv:PE X value tv) (hs:swapsWith value (some (.Attribute o f pos')) pos.line X.env=pure false):PS X (.Assign [.Attribute o f pos'] value pos) (sFld X.K ta tv f):=by
 intro pins s σ H D I h
 refine plainObj_wpAny_Assign_Attribute (thn (hv pins s σ H _ I h) fun u s1 ⟨y,H1,I1,ry,q⟩=>thn (ha pins s1 σ H1 _ I1 q) fun ov s2 ⟨x,H2,I2,rx,a,C,dx,fs,ex,ea,c,n,l,q2⟩=>?_) hs
 subst ex
 obtain rfl:ov=Value.ref a:=rx
 exact setattr_ok I2 ea c n l ry fun s3 I3=>⟨σ,_,I3,q2⟩
end
section
variable {X:Cx} {pins:List (Addr×Obj)} {σ:St} {H:Hp} {s:Shared} {A:Around} {E:Value->Shared->Prop} {Q:Value->Shared->Prop} {c:Value} {b:Bool}
end
structure Room (k:Nat) (A:Around):Prop where
 hd:A.handled=none
 dp:A.depth+3*k+5 < recursionLimit
 un:A.units+16*k+200 < cLine
theorem Room.mono {j k:Nat} {A:Around} (r:Room k A) (h:j<=k):Room j A:=⟨r.hd,by have:=r.dp;omega,by have:=r.un;omega⟩
theorem Room.deeper {k:Nat} {A:Around} (r:Room (k+1) A) (env:Env):Room k (A.deeper env):=
 ⟨r.hd,by have:=r.dp;show A.depth+1+3*k+5 < _;omega,by have:=r.un;show A.units+3+16*k+200 < _;omega⟩
theorem make_depth {A:Around} {C:Addr} {us:List Value} {kw:List (Str×Value)}:(A.under (.builtin "type.__call__" ⟨.ref C::us,kw⟩)).depth=A.depth+1:=by
 first|rfl|simp [Around.under,Code.weight,Code.isCreation,Code.isGuard,Code.isCaller,Code.frames,Code.isFrame,guardIds]
theorem make_units {A:Around} {C:Addr} {us:List Value} {kw:List (Str×Value)}:(A.under (.builtin "type.__call__" ⟨.ref C::us,kw⟩)).units=A.units+1:=by
 first|rfl|simp [Around.under,Code.cUnits,Code.frames,Code.isFrame]
theorem Room.make {k:Nat} {A:Around} (r:Room (k+1) A) (C:Addr) (us:List Value) (kw:List (Str×Value)):Room k (A.under (.builtin "type.__call__" ⟨.ref C::us,kw⟩)):=
 ⟨r.hd,by have:=r.dp;rw [make_depth];omega,by have:=r.un;rw [make_units];omega⟩
theorem Room.depth {k:Nat} {A:Around} (r:Room k A):A.depth < recursionLimit:=by have:=r.dp;omega
theorem Room.units {k:Nat} {A:Around} (r:Room k A):A.units+64 < cLine:=by have:=r.un;omega
def tNil:TA:=fun _ H Q=>Q [] H
def tCons (ta:TE) (tr:TA):TA:=fun σ H Q=>ta σ H fun x H1=>tr σ H1 fun xs H2=>Q (x::xs) H2
section
variable {X:Cx} {e:Expr} {es:List Expr} {te:TE} {t:TA} {pos:Pos}
theorem pa_nil:PA X [] tNil:=fun _ _ _ _ H Q I h=>Calls.spliced_nil ⟨[],H,I,.nil,h⟩
theorem pa_cons (ha:PE X e te) (hr:PA X es t) (hs:starEach (e::es) X.env=(false,eval e X.env)::starEach es X.env:=by rfl):PA X (e::es) (tCons te t):=by
 intro pos pins s σ H Q I h
 rw [hs]
 show wpAny _ _ (spliced ((false,eval e X.env)::backTo pos (starEach es X.env))) _ _ s
 refine Calls.spliced_cons (thn (ha pins s σ H _ I h) fun u s1 ⟨x,H1,I1,r1,q1⟩=>?_)
 exact thn (hr pos pins s1 σ H1 _ I1 q1) fun us s2 ⟨xs,H2,I2,r2,q2⟩=>⟨x::xs,H2,I2,.cons r1 r2,q2⟩
def tTup (t:TA):TE:=fun σ H Q=>t σ H fun xs H1=>xs.length<=sizeLine/\∀p,H1 p=none->Q (.ref p) (upd H1 p (.tup xs))
def tLst (t:TA):TE:=fun σ H Q=>t σ H fun xs H1=>xs.length<=sizeLine/\∀p,H1 p=none->Q (.ref p) (upd H1 p (.lst xs))
theorem pe_tup {x1} (h:PA X es t):PE X (.Tuple es x1 pos) (tTup t):=by
 intro pins s σ H Q I hq
 refine wpAny_Tuple_spliced (thn (h pos pins s σ H _ I hq) fun us s1 ⟨xs,H1,I1,r,z,q⟩=>⟨by rw [<-r.length];exact z,?_⟩)
 have hf:H1 s1.heap.objs.size=none:=I1.hok.fresh (Nat.le_refl _)
 refine ⟨.ref s1.heap.objs.size,upd H1 s1.heap.objs.size (.tup xs),I1.laid (t':=s1.toks) (fun b u e=>Heap.get?_push_of_some _ e) (Nat.le_refl _) ?_,rfl,q _ hf⟩
 exact ⟨z,us,r,⟨_,Heap.get?_push_size _ rfl,rfl,_,rfl⟩⟩
theorem pe_lst (h:PA X es t):PE X (.List es pos) (tLst t):=by
 intro pins s σ H Q I hq
 refine wpAny_List_spliced (thn (h pos pins s σ H _ I hq) fun us s1 ⟨xs,H1,I1,r,z,q⟩=>⟨by rw [<-r.length];exact z,?_⟩)
 have hf:H1 s1.heap.objs.size=none:=I1.hok.fresh (Nat.le_refl _)
 refine ⟨.ref s1.heap.objs.size,upd H1 s1.heap.objs.size (.lst xs),I1.laid (t':=s1.toks) (fun b u e=>Heap.get?_push_of_some _ e) (Nat.le_refl _) ?_,rfl,q _ hf⟩
 exact ⟨z,us,0,r,Heap.get?_push_size _ rfl⟩
end
abbrev Sp:=List V->Hp->VK->XK->Prop
abbrev CXT:=List Env->Hp->Shared->XK->Value->Shared->Prop
structure Env0 (P:Program) (w:World) (K:W.Frag) (mg:Str->Option Value) (base:Heap) (A:Around) (outer:List Env) (s:Shared) (H:Hp):Prop where
 frames:A.frames=some outer
 mod:Mod K mg base
 bs:∀b o,base.get? b=some o->s.heap.get? b=some o/\H b=none
 bsz:base.objs.size<=s.heap.objs.size
 funs:s.heap.FunFrames base outer
 frf:∀b∈frs outer,H b=none
 hok:HOk P w H s.heap
 bare:AllBare s.gens
def CE (outer:List Env) (P:Program) (w:World) (H:Hp) (s:Shared) (Q:VK) (u:Value) (s':Shared):Prop:=
 ∃v H',s'.os=s.os/\AllBare s'.gens/\Un (frs outer) [] H H' s.heap s'.heap/\HOk P w H' s'.heap/\RelV v u/\Q v H'
def CR (CX:CXT) (outer:List Env) (P:Program) (w:World) (H:Hp) (s:Shared) (Q:VK) (E:XK) (r:Result) (s':Shared):Prop:=
 match r with
 |.ok (.ret u)=>CE outer P w H s Q u s'
 |.ok _=>False
 |.error e=>CX outer H s E e s'
structure FnOk (P:Program) (w:World) (K:W.Frag) (mg:Str->Option Value) (base:Heap) (CX:CXT) (k:Nat) (f:Addr) (fd:FuncData) (ps:List Str) (sp:Sp):Prop where
 len:∀vs H Q E,sp vs H Q E->vs.length=ps.length
 run:∀(A:Around) (outer:List Env) (s:Shared) (H:Hp) (args:Args) (us:List Value) (vs:List V) (Q:VK) (E:XK),Room k A->Env0 P w K mg base A outer s H->BindsTo s fd args (ps.zip us)->Vals vs us->sp vs H Q E->
  codeAny (model P w) A (.call (.ref f) args) (CR CX outer P w H s Q E) s
theorem FnOk.mono {P:Program} {w:World} {K:W.Frag} {mg:Str->Option Value} {base:Heap} {CX:CXT} {j k:Nat} {f:Addr} {fd:FuncData} {ps:List Str} {sp:Sp} (F:FnOk P w K mg base CX j f fd ps sp) (h:j<=k):
  FnOk P w K mg base CX k f fd ps sp:=⟨F.len,fun A outer s H args us vs Q E hr=>F.run A outer s H args us vs Q E (hr.mono h)⟩
theorem Env0.make {P:Program} {w:World} {K:W.Frag} {mg:Str->Option Value} {base:Heap} {A:Around} {outer:List Env} {s:Shared} {H:Hp} (e:Env0 P w K mg base A outer s H) (C:Addr) (us:List Value) (kw:List (Str×Value)):
  Env0 P w K mg base (A.under (.builtin "type.__call__" ⟨.ref C::us,kw⟩)) outer s H:=⟨by first|exact e.frames|(simpa [Around.under,Code.envs,Code.isFrame,pushEnvs] using e.frames),e.mod,e.bs,e.bsz,e.funs,e.frf,e.hok,e.bare⟩
section
variable {X:Cx} {pins:List (Addr×Obj)} {σ:St} {H:Hp} {s s':Shared}
theorem Inv.env0 (I:Inv X pins σ H s):Env0 X.prog X.w X.K X.mg X.base X.A X.stack s H:=
 ⟨I.ok.frames,I.ok.mod,I.bs,Nat.le_trans I.ok.bsz I.sz,I.stack,I.stkFree,I.hok,I.bare⟩
theorem Inv.after {Q:VK} {u:Value} (I:Inv X pins σ H s) (h:CE X.stack X.prog X.w H s Q u s'):EP X pins σ Q u s':=by
 obtain ⟨v,H',os,bare,un,hok,r,q⟩:=h
 obtain ⟨hh,g,d,t,os'⟩:=s'
 obtain rfl:os'=s.os:=os
 exact ⟨v,H',I.call (h':=hh) (g':=g) (d':=d) (t':=t) (ch:=[]) un hok bare (fun b z=>absurd z (by simp)),r,q⟩
end
def tCall (sp:Sp) (dvs:List V) (E:XK) (t:TA):TE:=fun σ H Q=>t σ H fun vs H1=>sp (vs++dvs) H1 Q E
def tMake (C:Addr) (sp:Sp) (dvs:List V) (E:XK) (t:TA):TE:=fun σ H Q=>t σ H fun vs H1=>∀x dx,H1 x=none->H1 dx=none->dx≠x->
 sp (.ref x::(vs++dvs)) (upd (upd H1 dx (.own x)) x (.ins C dx [])) (fun v H2=>v=.non/\Q (.ref x) H2) E
def Binds (K:W.Frag) (fd:FuncData) (ps:List Str) (ds:List Value):Prop:=
 ∀(s:Shared) (us:List Value),K.In s.heap->(us++ds).length=ps.length->BindsTo s fd ⟨us,[]⟩ (ps.zip (us++ds))
theorem Binds.all {K:W.Frag} {fd:FuncData} {ps:List Str} (h:∀us:List Value,us.length=ps.length->bindArgs fd ⟨us,[]⟩=pure (ps.zip us)):Binds K fd ps []:=fun s us _ hl=>by
 rw [List.append_nil] at hl ⊢
 exact .of_eq (h us hl)
def Passes (CX:CXT) (X:Cx) (E:XK):Prop:=∀(pins:List (Addr×Obj)) (σ:St) (H:Hp) (s:Shared) (e:Value) (s':Shared),Inv X pins σ H s->CX X.stack H s E e s'->X.xe e s'
section
variable {X:Cx} {CX:CXT} {k:Nat} {f C:Addr} {fd:FuncData} {ps:List Str} {sp:Sp} {dvs:List V} {ds:List Value} {E:XK} {x m:Str} {p pos apos:Pos} {e o:Expr} {es:List Expr} {ta:TE} {t:TA}
theorem run_fn {pins:List (Addr×Obj)} {σ:St} {H:Hp} {s:Shared} {Q:VK} {us:List Value} {vs:List V} (F:FnOk X.prog X.w X.K X.mg X.base CX k f fd ps sp) (hr:Room k X.A) (hb:Binds X.K fd ps ds) (hd:Vals dvs ds) (hx:Passes CX X E)
  (I:Inv X pins σ H s) (r:Vals vs us) (h:sp (vs++dvs) H Q E):wpAny (model X.prog X.w) X.A (call (.ref f) us) (EP X pins σ Q) X.xe s:=by
 have r2:Vals (vs++dvs) (us++ds):=r.append hd
 have hl:(us++ds).length=ps.length:=by rw [<-r2.length];exact F.len _ _ _ _ h
 refine wpAny_call (codeAny_mono (F.run X.A X.stack s H ⟨us,[]⟩ (us++ds) (vs++dvs) Q E hr I.env0 (hb s us I.kIn hl) r2 h) fun r s' hq=>?_)
 cases r with
 |error e=>exact hx pins σ H s e s' I hq
 |ok fl=>
  cases fl with
  |ret u=>exact I.after hq
  |next=>exact False.elim hq
  |brk=>exact False.elim hq
  |cont=>exact False.elim hq
theorem pe_call (F:FnOk X.prog X.w X.K X.mg X.base CX k f fd ps sp) (hr:Room k X.A) (hg:Gl X x) (hm:X.mg x=some (.ref f)) (hk:PySem.W.keepIn X.K (.ref f)=true) (hb:Binds X.K fd ps ds) (hd:Vals dvs ds) (hx:Passes CX X E)
  (ha:PA X (e::es) t) (hdb:(x == ("__debug__":Str))=false:=by decide) (he:starEach (e::es) X.env=(false,eval e X.env)::starEach es X.env:=by rfl) (hpl:(backTo pos (starEach es X.env)).any (·.1)=false:=by rfl):
  PE X (.Call (.Name x p) (e::es) [] pos) (tCall sp dvs E t):=by
 intro pins s σ H Q I h
 refine wpAny_Call_Name_kw (ld_glob I hg hm ?_ hdb)
 refine PySem.W.callWith_K (h₀:=X.base) I.ok.mod.kin hk (thn (ha pos pins s σ H _ I h) fun us s1 ⟨vs,H1,I1,r,q⟩=>⟨I1.kIn,?_⟩) he hpl
 exact run_fn F hr hb hd hx I1 r q
structure Mk (K:W.Frag) (C f:Addr):Prop where
 makes:PySem.W.makesIn K C=true
 init:PySem.W.findIn K (.ref C) "__init__"=some (some (.ref f))
 fn:PySem.W.isFn K (.ref f)=true
 kp:PySem.W.keepIn K (.ref C)=true
theorem run_make {pins:List (Addr×Obj)} {σ:St} {H:Hp} {s:Shared} {Q:VK} {us:List Value} {vs:List V} (M:Mk X.K C f) (F:FnOk X.prog X.w X.K X.mg X.base CX k f fd ps sp) (hr:Room (k+1) X.A) (hb:Binds X.K fd ps ds) (hd:Vals dvs ds)
  (hx:Passes CX X E) (I:Inv X pins σ H s) (r:Vals vs us)
  (h:∀x dx,H x=none->H dx=none->dx≠x->sp (.ref x::(vs++dvs)) (upd (upd H dx (.own x)) x (.ins C dx [])) (fun v H2=>v=.non/\Q (.ref x) H2) E):
  wpAny (model X.prog X.w) X.A (call (.ref C) us) (EP X pins σ Q) X.xe s:=by
 have hq:=h (s.heap.objs.size+1) s.heap.objs.size (I.hok.fresh (Nat.le_succ _)) (I.hok.fresh (Nat.le_refl _)) (Nat.ne_of_lt (Nat.lt_succ_self _))
 have I2:=Inv.made (C:=C) I
 have r2:Vals (V.ref (s.heap.objs.size+1)::(vs++dvs)) (Value.ref (s.heap.objs.size+1)::(us++ds)):=.cons rfl (r.append hd)
 have hl:(Value.ref (s.heap.objs.size+1)::us++ds).length=ps.length:=by
  have e:=r2.length
  rw [F.len _ _ _ _ hq] at e
  exact e.symm
 refine wpAny_call (make_map (f:=f) I.kIn M.makes M.init (beq_iff_eq.mp M.fn) (codeAny_mono (F.run _ X.stack _ _ ⟨Value.ref (s.heap.objs.size+1)::us,[]⟩ (Value.ref (s.heap.objs.size+1)::(us++ds)) _ _ E (hr.make C us [])
  (I2.env0.make C us []) (hb _ (Value.ref (s.heap.objs.size+1)::us) I2.kIn hl) r2 hq) fun r s' hq'=>?_))
 cases r with
 |error e=>exact hx pins σ _ _ e s' I2 hq'
 |ok fl=>
  cases fl with
  |ret u=>
   obtain ⟨v,H',I3,rv,ev,q3⟩:=I2.after hq'
   subst ev
   exact ⟨rv,⟨V.ref (s.heap.objs.size+1),H',I3,rfl,q3⟩⟩
  |next=>exact False.elim hq'
  |brk=>exact False.elim hq'
  |cont=>exact False.elim hq'
theorem pe_make (M:Mk X.K C f) (F:FnOk X.prog X.w X.K X.mg X.base CX k f fd ps sp) (hr:Room (k+1) X.A) (hg:Gl X x) (hm:X.mg x=some (.ref C)) (hb:Binds X.K fd ps ds) (hd:Vals dvs ds) (hx:Passes CX X E)
  (ha:PA X (e::es) t) (hdb:(x == ("__debug__":Str))=false:=by decide) (he:starEach (e::es) X.env=(false,eval e X.env)::starEach es X.env:=by rfl) (hpl:(backTo pos (starEach es X.env)).any (·.1)=false:=by rfl):
  PE X (.Call (.Name x p) (e::es) [] pos) (tMake C sp dvs E t):=by
 intro pins s σ H Q I h
 refine wpAny_Call_Name_kw (ld_glob I hg hm ?_ hdb)
 refine PySem.W.callWith_K (h₀:=X.base) I.ok.mod.kin M.kp (thn (ha pos pins s σ H _ I h) fun us s1 ⟨vs,H1,I1,r,q⟩=>⟨I1.kIn,?_⟩) he hpl
 exact run_make M F hr hb hd hx I1 r q
theorem pe_make0 (M:Mk X.K C f) (F:FnOk X.prog X.w X.K X.mg X.base CX k f fd ps sp) (hr:Room (k+1) X.A) (hg:Gl X x) (hm:X.mg x=some (.ref C)) (hb:Binds X.K fd ps ds) (hd:Vals dvs ds) (hx:Passes CX X E)
  (hdb:(x == ("__debug__":Str))=false:=by decide):PE X (.Call (.Name x p) [] [] pos) (tMake C sp dvs E tNil):=by
 intro pins s σ H Q I h
 refine wpAny_Call_Name_kw (ld_glob I hg hm ?_ hdb)
 exact PySem.W.callWith_K0 I.kIn M.kp (run_make (us:=[]) M F hr hb hd hx I .nil h)
end
section
variable {X:Cx} {CX:CXT} {k:Nat} {f C:Addr} {fd:FuncData} {ps ks:List Str} {sp:Sp} {E:XK} {x m:Str} {p pos apos kpos:Pos} {e o:Expr} {es:List Expr} {kws:List Keyword} {te ta:TE} {t tk:TA} {nm:Option Str}
variable {g:List Value->List Value->List Value} {gV:List V->List V->List V}
end
structure FnScope (N P:List Str) (sc:Scope):Prop where
 kind:sc.kind=.function
 co:sc.isCoroutine=false
 gen:sc.isGenerator=false
 nd:N.Nodup
 pre:N.take P.length=P
 par:∀x∈P,sc.names.lookup x=some .local\/sc.names.lookup x=some .cell
 nofree:∀y∈sc.names,y.2≠.free
theorem bindL_out {kindOf:Str->Option NameKind} {x:Str}:∀{binds:List (Str×Value)} {m:Str->Option Value},(∀v,(x,v)∉binds)->bindL kindOf binds m x=m x
 |[],_,_=>rfl
 |(n,v)::r,m,h=>by
  unfold bindL
  rw [bindL_out fun w hw=>h w (List.mem_cons_of_mem _ hw)]
  split
  ·have:x≠n:=by rintro rfl;exact h v List.mem_cons_self
   simp [this]
  ·rfl
theorem bindC_out {kindOf:Str->Option NameKind} {x:Str}:∀{binds:List (Str×Value)} {m:Str->Option Value},(∀v,(x,v)∉binds)->bindC kindOf binds m x=m x
 |[],_,_=>rfl
 |(n,v)::r,m,h=>by
  unfold bindC
  rw [bindC_out fun w hw=>h w (List.mem_cons_of_mem _ hw)]
  split
  ·rfl
  ·have:x≠n:=by rintro rfl;exact h v List.mem_cons_self
   simp [this]
theorem bindL_get {kindOf:Str->Option NameKind} {x:Str} {v:Value}:∀{P:List Str} {vs:List Value} {i:Nat} {m:Str->Option Value},P.Nodup->P[i]?=some x->vs[i]?=some v->kindOf x=some .local->
  bindL kindOf (P.zip vs) m x=some v
 |[],_,_,_,_,h,_,_=>by simp at h
 |_::_,[],_,_,_,_,h,_=>by simp at h
 |p::P,w::vs,0,m,nd,h1,h2,hk=>by
  simp at h1 h2;subst h1;subst h2
  show bindL kindOf ((p,w)::P.zip vs) m p=_
  unfold bindL
  rw [bindL_out fun v hv=>(List.nodup_cons.mp nd).1 (List.of_mem_zip hv).1,if_pos hk]
  simp
 |p::P,w::vs,i+1,m,nd,h1,h2,hk=>by
  show bindL kindOf ((p,w)::P.zip vs) m x=_
  unfold bindL
  exact bindL_get (i:=i) (List.nodup_cons.mp nd).2 (by simpa using h1) (by simpa using h2) hk
theorem bindC_get {kindOf:Str->Option NameKind} {x:Str} {v:Value}:∀{P:List Str} {vs:List Value} {i:Nat} {m:Str->Option Value},P.Nodup->P[i]?=some x->vs[i]?=some v->kindOf x≠some .local->
  bindC kindOf (P.zip vs) m x=some v
 |[],_,_,_,_,h,_,_=>by simp at h
 |_::_,[],_,_,_,_,h,_=>by simp at h
 |p::P,w::vs,0,m,nd,h1,h2,hk=>by
  simp at h1 h2;subst h1;subst h2
  show bindC kindOf ((p,w)::P.zip vs) m p=_
  unfold bindC
  rw [bindC_out fun v hv=>(List.nodup_cons.mp nd).1 (List.of_mem_zip hv).1,if_neg hk]
  simp
 |p::P,w::vs,i+1,m,nd,h1,h2,hk=>by
  show bindC kindOf ((p,w)::P.zip vs) m x=_
  unfold bindC
  exact bindC_get (i:=i) (List.nodup_cons.mp nd).2 (by simpa using h1) (by simpa using h2) hk
def start (N:List Str) (vs:List V):St:=vs.map some++List.replicate (N.length - vs.length) none
def cxOf (CX:CXT) (P:Program) (w:World) (K:W.Frag) (mg:Str->Option Value) (base:Heap) (N:List Str) (qual:Str) (scope:Scope) (f:Addr) (cd:Value) (A:Around) (outer:List Env) (s:Shared) (H:Hp) (E:XK):Cx where
 prog:=P
 w:=w
 K:=K
 mg:=mg
 base:=base
 A:=A.deeper (envOfC qual scope s.heap.objs.size f cd)
 N:=N
 s_0:=s
 H_0:=H
 env:=envOfC qual scope s.heap.objs.size f cd
 outer:=outer
 stack:=envOfC qual scope s.heap.objs.size f cd::outer
 ex:=[]
 calm:=true
 fn:=fun _=>true
 pn:=[]
 xe:=fun e s'=>wpAny (model P w) (A.deeper (envOfC qual scope s.heap.objs.size f cd)) (leaving (envOfC qual scope s.heap.objs.size f cd) e) (fun _ s''=>CX outer H s E e s'') (fun e' s''=>CX outer H s E e' s'') s'
theorem cell_has {sc:Scope} {n:Nat} {x:Str} (h:sc.names.lookup x=some .cell):∃c,(cellsFrom n sc.names []).lookup x=some c:=by
 have q:=PySem.W.cellsFrom_some sc.names n [] (.inl h)
 exact Option.isSome_iff_exists.mp q
theorem inv_start {CX:CXT} {P:Program} {w:World} {K:W.Frag} {mg:Str->Option Value} {base:Heap} {N ps:List Str} {qual:Str} {scope:Scope} {f:Addr} {cd:Value} {A:Around} {outer:List Env} {s s1:Shared} {H:Hp} {E:XK} {us:List Value} {vs:List V}
  (S:FnScope N ps scope) (hd:A.handled=none) (e0:Env0 P w K mg base A outer s H) (hl:vs.length=ps.length) (r:Vals vs us)
  (x:InCallC s s.heap.objs.size (bindL (envOfC qual scope s.heap.objs.size f cd).kindOf (ps.zip us) fun _=>none) (cellsFrom (s.heap.objs.size+1) scope.names []) (bindC (envOfC qual scope s.heap.objs.size f cd).kindOf (ps.zip us) fun _=>none) s1):
  Inv (cxOf CX P w K mg base N qual scope f cd A outer s H E) [] (start N vs) H s1:=by
 have hpl:ps.length<=N.length:=by have:=congrArg List.length S.pre;rw [List.length_take] at this;omega
 obtain ⟨h1,tk,rfl,hk⟩:=x.done
 have noA:∀b:Addr,b∉(cxOf CX P w K mg base N qual scope f cd A outer s H E).ex:=fun b z=>absurd (show b∈([]:List Addr) from z) (by simp)
 refine ⟨⟨e0.mod,S.kind,rfl,rfl,Nat.le_refl _,fun y z c h1 h2=>?_,fun y hy=>?_,fun y c _ h=>?_,fun _=>hd,Around.frames_deeper e0.frames,.inr ⟨rfl,rfl⟩,fun b z=>absurd z (noA b),e0.bs,e0.bsz,fun b _ _=>noA b,fun b z=>absurd z (noA b),e0.funs,e0.frf⟩,
  rfl,e0.bare,Un.kept hk,⟨_,x.toInCall.ns,fun i y v h1 h2 h3=>?_⟩,fun y c h=>⟨_,x.cell y c h⟩,e0.hok.fresh (Nat.le_refl _),fun y c h=>?_,fun p hp=>absurd (show p∈([]:List (Addr×Obj)) from hp) (by simp),e0.hok.kept hk,?_⟩
 ·exact name_of_addr x.apart (PySem.mem_of_lookup h1) (PySem.mem_of_lookup h2)
 ·have hy:scope.names.lookup y=some .cell\/scope.names.lookup y=some .free:=hy
  rcases hy with hy|hy
  ·exact cell_has hy
  ·exact absurd rfl (S.nofree _ (PySem.mem_of_lookup hy))
 ·exact Nat.le_of_lt (x.above y c (PySem.mem_of_lookup h))
 ·have hi:i < vs.length:=by
   unfold start at h2
   by_cases hi:i < vs.length
   ·exact hi
   ·rw [List.getElem?_append_right (by simpa using hi)] at h2
    rw [List.getElem?_replicate] at h2
    split at h2 <;> cases h2
  have ha:vs[i]?=some v:=by
   unfold start at h2
   rw [List.getElem?_append_left (by simpa using hi),List.getElem?_map] at h2
   cases e:vs[i]? with
   |none=>rw [e] at h2;cases h2
   |some a=>rw [e] at h2;cases h2;rfl
  obtain ⟨u,hu,rv⟩:=r.get ha
  have hp:ps[i]?=some y:=by
   rw [<-S.pre,List.getElem?_take_of_lt (by omega)];exact h1
  have ndP:ps.Nodup:=by rw [<-S.pre];exact S.nd.sublist (List.take_sublist _ _)
  refine ⟨u,rv,?_⟩
  rcases S.par y (List.mem_of_getElem? hp) with k|k
  ·exact .inl ⟨k,bindL_get ndP hp hu k⟩
  ·obtain ⟨c,e⟩:=cell_has (n:=s.heap.objs.size+1) k
   refine .inr ⟨.inl k,c,e,?_⟩
   have q:=x.cell y c e
   rw [bindC_get ndP hp hu (by show scope.names.lookup y≠_;rw [k];decide)] at q
   exact q
 ·exact e0.hok.fresh (Nat.le_of_lt (x.above y c (PySem.mem_of_lookup h)))
 ·unfold start
  show _=N.length
  rw [List.length_append,List.length_map,List.length_replicate]
  omega
theorem fn_of {CX:CXT} {P:Program} {w:World} {K:W.Frag} {mg:Str->Option Value} {base:Heap} {k:Nat} {f:Addr} {name qual:Str} {params:Arguments} {body:List Stmt} {scope:Scope} {dV kV doc pm cdv ct oc:Value} {an od:Option Addr}
  {osl:Array (Option Value)} {N ps:List Str} {sp:Sp} (lk:K.lookup f=some ⟨oc,od,.func (PySem.W.fnOf name qual params body scope dV kV doc pm an cdv ct),osl⟩) (hcd:PySem.W.codeIn K cdv qual=true) (S:FnScope N ps scope)
  (len:∀vs H Q E,sp vs H Q E->vs.length=ps.length)
  (hbody:∀(A:Around) (outer:List Env) (s:Shared) (H:Hp) (vs:List V) (Q:VK) (E:XK),Room k (A.deeper (envOfC qual scope s.heap.objs.size f cdv))->sp vs H Q E->
   ∃t,PSs (cxOf CX P w K mg base N qual scope f cdv A outer s H E) body t/\t {nx:=fun _ H'=>Q .non H',rt:=Q} (start N vs) H):
  FnOk P w K mg base CX (k+1) f (PySem.W.fnOf name qual params body scope dV kV doc pm an cdv ct) ps sp:=by
 refine ⟨len,fun A outer s H args us vs Q E hr e0 hb r hsp=>?_⟩
 have hl:=len _ _ _ _ hsp
 have KX:K.In s.heap:=e0.mod.kin.keeps fun b o e=>(e0.bs b o e).1
 have lim:s.heap.NoLimit:=e0.mod.nolimit.keeps fun b o e=>(e0.bs b o e).1
 have hkind:∀y∈ps.zip us,scope.names.lookup y.1=some .local\/(scope.names.lookup y.1=some .cell/\((cellsFrom (s.heap.objs.size+1) scope.names []).lookup y.1).isSome=true):=fun ⟨n,v⟩ hy=>by
  rcases S.par n (List.of_mem_zip hy).1 with q|q
  ·exact .inl q
  ·exact .inr ⟨q,PySem.W.cellsFrom_some _ _ _ (.inl q)⟩
 refine codeAny_call_function hr.depth (KX _ _ lk) rfl S.co S.gen rfl (PySem.W.codeRec_of KX hcd) (hb _ _ _ _ ?_)
 refine wpAny_newFunctionEnv_cells S.kind hkind fun env he s1 x=>?_
 subst he
 refine ⟨lim.keeps x.toInCall.keep,codeAny_func ?_⟩
 obtain ⟨t,ht,hq⟩:=hbody A outer s H vs Q E (hr.deeper _) hsp
 have I:Inv (cxOf CX P w K mg base N qual scope f cdv A outer s H E) [] (start N vs) H s1:=inv_start S hr.hd e0 hl r x
 refine wpAny_mono (ht [] s1 (start N vs) H _ I hq) (fun fl s' hs=>?_) fun e s' hs=>hs
 have fin:∀{σ':St} {H':Hp} {v:V} {u:Value},Inv (cxOf CX P w K mg base N qual scope f cdv A outer s H E) [] σ' H' s'->RelV v u->Q v H'->CE outer P w H s Q u s':=
  fun {σ' H' v u} J rv q=>⟨v,H',J.os,J.bare,J.base,J.hok,rv,q⟩
 cases fl with
 |ret u=>
  obtain ⟨v,σ',H',J,rv,q⟩:=hs
  exact fin J rv q
 |next=>
  obtain ⟨σ',H',J,q⟩:=hs
  exact fin (v:=V.non) (u:=Value.none) J rfl q
 |brk=>
  obtain ⟨_,_,_,q⟩:=hs
  exact False.elim q
 |cont=>
  obtain ⟨_,_,_,q⟩:=hs
  exact False.elim q
section
variable {X:Cx} {x:Str} {p pos:Pos} {e:Expr} {es:List Expr} {t:TA} {id T:String} {r:List V->Hp->VK->Prop}
def tCB (r:List V->Hp->VK->Prop) (t:TA):TE:=fun σ H Q=>t σ H fun vs H1=>r vs H1 Q
theorem pe_callB (hc:CallR X (.builtin id) r) (hg:Gl X x) (hm:X.mg x=none) (hv:bootBuiltins x=some (.builtin id)) (ha:PA X (e::es) t) (hn:x≠"__name__":=by decide) (hdb:(x == ("__debug__":Str))=false:=by decide)
  (he:starEach (e::es) X.env=(false,eval e X.env)::starEach es X.env:=by rfl) (hpl:(backTo pos (starEach es X.env)).any (·.1)=false:=by rfl):PE X (.Call (.Name x p) (e::es) [] pos) (tCB r t):=by
 intro pins s σ H Q I h
 refine wpAny_Call_Name_kw (ld_blt I hg hm hv ?_ hn hdb)
 exact PyProof.Rows.callWith_builtin1 (thn (ha pos pins s σ H _ I h) fun us s1 ⟨vs,H1,I1,r1,q1⟩=>hc pins s1 σ H1 vs us Q I1 r1 q1) he hpl
theorem pe_callTy (hc:CallR X (.type T) r) (hg:Gl X x) (hm:X.mg x=none) (hv:bootBuiltins x=some (.type T)) (ha:PA X (e::es) t) (hn:x≠"__name__":=by decide) (hdb:(x == ("__debug__":Str))=false:=by decide)
  (he:starEach (e::es) X.env=(false,eval e X.env)::starEach es X.env:=by rfl) (hpl:(backTo pos (starEach es X.env)).any (·.1)=false:=by rfl):PE X (.Call (.Name x p) (e::es) [] pos) (tCB r t):=by
 intro pins s σ H Q I h
 refine wpAny_Call_Name_kw (ld_blt I hg hm hv ?_ hn hdb)
 exact PyProof.Rows.callWith_type1 (thn (ha pos pins s σ H _ I h) fun us s1 ⟨vs,H1,I1,r1,q1⟩=>hc pins s1 σ H1 vs us Q I1 r1 q1) he hpl
end
end L2
namespace HT
open PySem PyProof.Rows
section
open PySem.SeqAt
open PySem.AutoSeq1 (wpAny_loadPart')
open PySem.MeetsSeq PySem.MeetsSeq2 PySem.MeetsSeq3
end
section
variable {prog:Program} {w:World} {A:Around} {E:Value->Shared->Prop} {s:Shared}
def sIx (n d:Nat):Option Int->Nat
 |none=>d
 |some v=>if v < 0 then (v+(n:Int)).toNat else min v.toNat n
theorem sIx_none (n d:Nat):sIx n d none=d:=rfl
theorem sIx_nat (n d k:Nat):sIx n d (some (k:Int))=min k n:=by
 show (if (k:Int) < 0 then ((k:Int)+(n:Int)).toNat else min (k:Int).toNat n)=min k n
 rw [if_neg (by omega),Int.toNat_natCast]
end
end HT
namespace L2
open PySem PySem.Spec PyProof.Rows
abbrev TO:=St->Hp->(Option Int->Hp->Prop)->Prop
def PO (X:Cx) (e:Option Expr) (t:TO):Prop:=
 ∀(pins:List (Addr×Obj)) (s:Shared) (σ:St) (H:Hp) (Q:Option Int->Hp->Prop),Inv X pins σ H s->t σ H Q->
  wpAny (model X.prog X.w) X.A (evalPart e X.env) (fun u s'=>∃o H',Inv X pins σ H' s'/\IsPart u o/\Q o H') X.xe s
def tNoPart:TO:=fun _ H Q=>Q none H
def tPart (t:TE):TO:=fun σ H Q=>t σ H fun x H1=>∃i,x=.int i/\Q (some i) H1
section
variable {X:Cx} {e:Expr} {te:TE} {lo hi:Option Expr} {tl th:TO} {pos p2:Pos}
theorem po_none:PO X none tNoPart:=by
 intro pins s σ H Q I h
 rw [evalPart_none]
 exact wpAny_pure ⟨none,H,I,.none,h⟩
theorem po_some (h:PE X e te):PO X (some e) (tPart te):=by
 intro pins s σ H Q I hw
 rw [evalPart_some]
 refine thn (h pins s σ H _ I hw) fun u s1 ⟨x,H1,I1,r1,q1⟩=>?_
 obtain ⟨i,rfl,q⟩:=q1
 obtain ⟨t,rfl⟩:=r1
 exact ⟨some i,H1,I1,.int i t,q⟩
def SlR (X:Cx) (r:V->Option Int->Option Int->Hp->VK->Prop):Prop:=
 ∀(pins:List (Addr×Obj)) (s:Shared) (σ:St) (H:Hp) (x:V) (v vl vu:Value) (lo hi:Option Int) (sl:Addr) (Q:VK),Inv X pins σ H s->RelV x v->s.heap.IsSliceOf sl vl vu .none->IsPart vl lo->IsPart vu hi->r x lo hi H Q->
  ∃T id,typeLookup (.type T) "__getitem__"=pure (some (.builtin id))/\s.TypeIs v T/\wpAny (model X.prog X.w) X.A (getItem v (.ref sl)) (EP X pins σ Q) X.xe s
def tSl (r:V->Option Int->Option Int->Hp->VK->Prop) (te:TE) (tl th:TO):TE:=fun σ H Q=>te σ H fun x H1=>tl σ H1 fun l H2=>th σ H2 fun u H3=>r x l u H3 Q
theorem pe_slice {r:V->Option Int->Option Int->Hp->VK->Prop} (hr:SlR X r) (he:PE X e te) (hl:PO X lo tl) (hu:PO X hi th):PE X (.Subscript e (.Slice lo hi none p2) pos) (tSl r te tl th):=by
 intro pins s σ H Q I h
 refine Subscript_ (thn (he pins s σ H _ I h) fun v s1 ⟨x,H1,I1,r1,q1⟩=>?_)
 refine wpAny_Slice (thn (hl pins s1 σ H1 _ I1 q1) fun vl s2 ⟨l,H2,I2,pl,q2⟩=>thn (hu pins s2 σ H2 _ I2 q2) fun vu s3 ⟨u,H3,I3,pu,q3⟩=>?_)
 rw [evalPart_none]
 refine wpAny_pure ?_
 have I4:Inv X pins σ H3 {s3 with heap:=s3.heap.push {cls:=.type "slice",data:=.fields #[vl,vu,.none]}}:=I3.kept (t':=s3.toks) fun b ob q=>Heap.get?_push_of_some _ q
 obtain ⟨T,id,hT,ht,hg⟩:=hr pins {s3 with heap:=s3.heap.push {cls:=.type "slice",data:=.fields #[vl,vu,.none]}} σ H3 x v vl vu l u s3.heap.objs.size Q I4 r1 (Heap.IsSliceOf.new ..) pl pu q3
 show wpAny (model X.prog X.w) X.A (subscriptTail e (.Slice lo hi none p2) v (.ref s3.heap.objs.size)) (EP X pins σ Q) X.xe {s3 with heap:=s3.heap.push {cls:=.type "slice",data:=.fields #[vl,vu,.none]}}
 exact tail_any (ops:=[.ref s3.heap.objs.size,v]) ht hT hg (by with_unfolding_all rfl)
def cutV (xs:List V) (lo hi:Option Int):List V:=(xs.drop (HT.sIx xs.length 0 lo)).take (HT.sIx xs.length xs.length hi - HT.sIx xs.length 0 lo)
theorem cutV_length (xs:List V) (lo hi:Option Int):(cutV xs lo hi).length<=xs.length:=by
 unfold cutV
 rw [List.length_take,List.length_drop]
 omega
end
def ixN (n:Nat) (i:Int):Option Nat:=if 0<=i then (if i < n then some i.toNat else none) else if -(n:Int)<=i then some (i+n).toNat else none
def atI {α:Type} (xs:List α) (i:Int):Option α:=(ixN xs.length i).bind fun j=>xs[j]?
theorem ixN_seq {n:Nat} {i:Int} {j:Nat} (h:ixN n i=some j):seqIndex? i n=some j/\j < n/\-(n:Int)<=i/\i < n:=by
 unfold ixN at h
 by_cases h0:0<=i
 ·rw [if_pos h0] at h
  by_cases h1:i < n
  ·rw [if_pos h1] at h
   have e:i.toNat=j:=Option.some.inj h
   exact ⟨by rw [seqIndex_of h0 h1,e],by omega,by omega,h1⟩
  ·rw [if_neg h1] at h;cases h
 ·rw [if_neg h0] at h
  by_cases h1:-(n:Int)<=i
  ·rw [if_pos h1] at h
   have e:(i+n).toNat=j:=Option.some.inj h
   exact ⟨by rw [seqIndex_neg (by omega) h1,e],by omega,h1,by omega⟩
  ·rw [if_neg h1] at h;cases h
theorem atI_get {α:Type} {xs:List α} {i:Int} {v:α} (h:atI xs i=some v):∃j,seqIndex? i xs.length=some j/\xs[j]?=some v/\j < xs.length/\-(xs.length:Int)<=i/\i < xs.length:=by
 unfold atI at h
 cases e:ixN xs.length i with
 |none=>rw [e] at h;cases h
 |some j=>
  rw [e] at h
  obtain ⟨h1,h2,h3,h4⟩:=ixN_seq e
  exact ⟨j,h1,h,h2,h3,h4⟩
theorem atI_nat {α:Type} {xs:List α} {j:Nat} {v:α} (h:xs[j]?=some v):atI xs (j:Int)=some v:=by
 have hj:j < xs.length:=(List.getElem?_eq_some_iff.mp h).1
 have e:ixN xs.length (j:Int)=some j:=by
  unfold ixN
  rw [if_pos (by omega),if_pos (by omega)];simp
 unfold atI;rw [e];exact h
theorem atI_last {α:Type} (xs:List α) (v:α):atI (xs++[v]) (-1)=some v:=by
 have hl:(xs++[v]).length=xs.length+1:=by simp
 have e:ixN (xs++[v]).length (-1)=some xs.length:=by
  unfold ixN
  rw [hl,if_neg (by decide),if_pos (by omega)]
  congr 1
  omega
 unfold atI
 rw [e]
 show (xs++[v])[xs.length]?=some v
 simp
def PlainIx (b:Expr):Prop:=∀o i,subscripted b false o i=operate [o,i] (getItem o i)
def IxR (X:Cx) (r:R2):Prop:=
 ∀(value slice:Expr) (pins:List (Addr×Obj)) (s:Shared) (σ:St) (H:Hp) (x y:V) (v u:Value) (Q:VK),Inv X pins σ H s->RelV x v->RelV y u->r x y H Q->
  subscripted slice false v u=operate [v,u] (getItem v u)->wpAny (model X.prog X.w) X.A (subscriptTail value slice v u) (EP X pins σ Q) X.xe s
def MtR (X:Cx) (id:String) (r:V->List V->Hp->VK->Prop):Prop:=
 ∀(pins:List (Addr×Obj)) (s:Shared) (σ:St) (H:Hp) (x:V) (xs:List V) (v:Value) (us:List Value) (Q:VK),Inv X pins σ H s->RelV x v->Vals xs us->r x xs H Q->
  wpAny (model X.prog X.w) X.A (call (.builtin id) (v::us)) (EP X pins σ Q) X.xe s
section
variable {X:Cx} {a b:Expr} {ta tb:TE} {pos:Pos}
theorem pe_ix {r:R2} (hr:IxR X r) (ha:PE X a ta) (hb:PE X b tb) (hs:PlainIx b):PE X (.Subscript a b pos) (tOp r ta tb):=by
 intro pins s σ H Q I h
 exact Subscript_ (binT ha hb I h fun v u s2 x y H2 I2 rx ry q=>hr a b pins s2 σ H2 x y v u Q I2 rx ry q (hs _ _))
def rIxL (K:W.Frag):R2:=fun x y H Q=>∃p xs i v,x=.ref p/\y=.int i/\SqL K H p xs/\atI xs i=some v/\Q v H
def rIxT (K:W.Frag):R2:=fun x y H Q=>∃p xs i v,x=.ref p/\y=.int i/\SqT K H p xs/\atI xs i=some v/\Q v H
theorem ix_list:IxR X (rIxL X.K):=by
 intro value slice pins s σ H x y v u Q I rx ry h hs
 obtain ⟨p,xs,i,z,rfl,rfl,hq,he,q⟩:=h
 cases rx
 obtain ⟨t,rfl⟩:=ry
 obtain ⟨its,r,pl,hz⟩:=I.list hq
 obtain ⟨j,h1,h2,h3,h4,h5⟩:=atI_get he
 obtain ⟨w,ew,rw'⟩:=r.get h2
 have hl:=r.length
 have hn:=line63
 have fin:EP X pins σ Q w s:=⟨z,H,I,rw',q⟩
 by_cases h0:0<=i
 ·have hj:i.toNat=j:=by
   rw [seqIndex_of h0 h5] at h1
   exact Option.some.inj h1
  exact item_listR pl.isList h0 (by omega) (by rw [hj];simpa using ew) fin hs
 ·have hj:(i+(its.toArray.size:Int)).toNat=j:=by
   rw [seqIndex_neg (by omega) h4] at h1
   rw [List.size_toArray,<-hl]
   exact Option.some.inj h1
  exact subscriptTail_builtinR (x:=w) pl.isList.typeIs slot_list_getitem.lookup
   (wpAny_getItem_list_neg (Q:=fun r s'=>r=w/\EP X pins σ Q r s') pl.isList (by omega) (by rw [List.size_toArray] <;> omega) (by omega) (by rw [hj];simpa using ew) ⟨rfl,fin⟩) hs
theorem ix_tup:IxR X (rIxT X.K):=by
 intro value slice pins s σ H x y v u Q I rx ry h hs
 obtain ⟨p,xs,i,z,rfl,rfl,hq,he,q⟩:=h
 cases rx
 obtain ⟨t,rfl⟩:=ry
 obtain ⟨its,r,pl,hz⟩:=I.tuple hq
 obtain ⟨j,h1,h2,h3,h4,h5⟩:=atI_get he
 obtain ⟨w,ew,rw'⟩:=r.get h2
 have hl:=r.length
 have hn:=line63
 have fin:EP X pins σ Q w s:=⟨z,H,I,rw',q⟩
 exact subscriptTail_builtinR (x:=w) pl.typeIs slot_tuple_getitem.lookup
  (getItem_tuple (j:=j) (Q:=fun r s'=>r=w/\EP X pins σ Q r s') pl (by omega) (by omega) (by rw [List.size_toArray,<-hl];exact h1) (by simpa using ew) ⟨rfl,fin⟩) hs
theorem mapSeq_set (its:List Value) (n j:Nat) (u:Value):Obj.mapSeq (·.setIfInBounds j u) {cls:=.type "list",data:=.seq its.toArray n}={cls:=.type "list",data:=.seq (its.set j u).toArray n}:=by
 simp [Obj.mapSeq]
theorem Inv.lst {pins:List (Addr×Obj)} {σ:St} {H:Hp} {s:Shared} {p:Addr} {xs:List V} (I:Inv X pins σ H s) (h:H p=some (.lst xs)):
  ∃(its:List Value) (n:Nat),Vals xs its/\s.heap.get? p=some {cls:=.type "list",data:=.seq its.toArray n}/\xs.length<=sizeLine:=by
 obtain ⟨z,its,n,r,e⟩:=I.hok p _ h
 exact ⟨its,n,r,e,z⟩
theorem Inv.lstUpd {pins:List (Addr×Obj)} {σ:St} {H:Hp} {s:Shared} {p:Addr} {xs ys:List V} {its its':List Value} {n n':Nat} {f:Obj->Obj} (I:Inv X pins σ H s) (h:H p=some (.lst xs))
  (ho:s.heap.get? p=some {cls:=.type "list",data:=.seq its.toArray n}) (hf:f {cls:=.type "list",data:=.seq its.toArray n}={cls:=.type "list",data:=.seq its'.toArray n'}) (r:Vals ys its') (hz:ys.length<=sizeLine) (t:Nat):
  Inv X pins σ (upd H p (.lst ys)) {s with heap:=s.heap.update p f,toks:=t}:=by
 have e:(s.heap.update p f).get? p=some {cls:=.type "list",data:=.seq its'.toArray n'}:=by
  rw [Heap.get?_update_self f ho (by rw [hf] <;> rfl),hf]
 refine I.write (x:=p) (e:=p) (by rw [h];trivial) (.inl rfl) (fun b u hb q=>(Heap.get?_update_other _ _ (Ne.symm hb)).trans q) ⟨_,e⟩ ?_
 exact ⟨hz,its',n',r,e⟩
def rSetL:V->V->V->Hp->(Hp->Prop)->Prop:=fun o i v H Q=>∃p xs k j,o=.ref p/\i=.int k/\H p=some (.lst xs)/\ixN xs.length k=some j/\Q (upd H p (.lst (xs.set j v)))
theorem set_list:PSet X rSetL:=by
 intro pins s σ H o i v ov iv u Q I ro ri rv h
 obtain ⟨p,xs,k,j,rfl,rfl,hp,hj,q⟩:=h
 cases ro
 obtain ⟨t,rfl⟩:=ri
 obtain ⟨its,n,r,ho,hz⟩:=I.lst hp
 obtain ⟨h1,h2,h3,h4⟩:=ixN_seq hj
 have hl:=r.length
 have hn:=line63
 have I':Inv X pins σ (upd H p (.lst (xs.set j v))) {s with heap:=s.heap.update p (Obj.mapSeq (·.setIfInBounds j u))}:=
  I.lstUpd hp ho (mapSeq_set its n j u) (r.set rv j) (by rw [List.length_set];exact hz) s.toks
 by_cases h0:0<=k
 ·have hk:k.toNat=j:=by
   rw [seqIndex_of h0 h4] at h1
   exact Option.some.inj h1
  exact PySem.W.ki_setAt ho h0 (by omega) (by rw [List.size_toArray,<-hl];exact h4) (by rw [hk];exact ⟨_,I',q⟩)
 ·have hk:(k+(its.toArray.size:Int)).toNat=j:=by
   rw [seqIndex_neg (by omega) h3] at h1
   rw [List.size_toArray,<-hl]
   exact Option.some.inj h1
  exact PySem.W.ki_setBack ho (by omega) (by rw [List.size_toArray,<-hl];exact h3) (by omega) (by rw [hk];exact ⟨_,I',q⟩)
theorem slice_bounds (lo hi:Option Int) (n:Nat):(sliceBounds lo hi none n).1=((HT.sIx n 0 lo:Nat):Int)/\(sliceBounds lo hi none n).2.1=((HT.sIx n n hi:Nat):Int)/\(sliceBounds lo hi none n).2.2=1:=by
 refine ⟨?_,?_,rfl⟩
 ·cases lo with
  |none=>simp [sliceBounds,HT.sIx]
  |some i=>
   simp only [sliceBounds,HT.sIx,Option.getD_none,show (1:Int) > 0 by decide,if_true]
   by_cases h:i < 0
   ·simp only [h,if_true] <;> omega
   ·simp only [h,if_false] <;> omega
 ·cases hi with
  |none=>simp [sliceBounds,HT.sIx]
  |some i=>
   simp only [sliceBounds,HT.sIx,Option.getD_none,show (1:Int) > 0 by decide,if_true]
   by_cases h:i < 0
   ·simp only [h,if_true] <;> omega
   ·simp only [h,if_false] <;> omega
theorem slicePick_cut (its:List Value) (lo hi:Option Int):slicePick its.toArray lo hi none=((its.drop (HT.sIx its.length 0 lo)).take (HT.sIx its.length its.length hi - HT.sIx its.length 0 lo)).toArray:=by
 obtain ⟨h1,h2,h3⟩:=slice_bounds lo hi its.toArray.size
 unfold slicePick
 rw [h1,h2,h3]
 simp only [sliceRange_one,pick_run,List.size_toArray] <;> rfl
def rSlL (K:W.Frag):V->Option Int->Option Int->Hp->VK->Prop:=fun x lo hi H Q=>∃a xs,x=.ref a/\SqL K H a xs/\∀p,H p=none->Q (.ref p) (upd H p (.lst (cutV xs lo hi)))
theorem sl_list:SlR X (rSlL X.K):=by
 intro pins s σ H x v vl vu lo hi sl Q I rx hs pl pu h
 obtain ⟨a,xs,rfl,hx,q⟩:=h
 cases rx
 obtain ⟨its,r,ht,hz⟩:=I.list hx
 have hlen:=r.length
 refine ⟨"list",_,slot_list_getitem.lookup,ht.isList.typeIs,?_⟩
 refine wpAny_getItem_list_slice ht.isList hs pl pu .none (by simp) ?_ (by rw [List.size_toArray] <;> omega)
 rw [slicePick_cut,<-hlen]
 refine ⟨.ref s.heap.objs.size,_,I.laid (t':=s.toks) (o:=.lst (cutV xs lo hi)) (fun b ob q=>Heap.get?_push_of_some _ q) (Nat.le_refl _) ?_,rfl,q _ (I.hok.fresh (Nat.le_refl _))⟩
 exact ⟨Nat.le_trans (cutV_length xs lo hi) hz,_,0,(r.drop (HT.sIx xs.length 0 lo)).take (HT.sIx xs.length xs.length hi - HT.sIx xs.length 0 lo),Heap.get?_push_size _ rfl⟩
def flatV:V->Bool
 |.non=>true
 |.bl _=>true
 |.int _=>true
 |.str _=>true
 |_=>false
def eqV:V->V->Bool
 |.non,.non=>true
 |.bl a,.bl b=>a == b
 |.bl a,.int b=>(if a then 1 else 0) == b
 |.int a,.bl b=>a == (if b then 1 else 0)
 |.int a,.int b=>a == b
 |.str a,.str b=>a == b
 |_,_=>false
theorem eqAt_V {A:Around} {s:Shared} {y x:V} {u v:Value} (ry:RelV y u) (rx:RelV x v) (fy:flatV y=true) (fx:flatV x=true):SeqAt.EqAt A s u v (eqV y x):=by
 cases y with
 |non=>
  cases ry
  cases x with
  |non=>cases rx;exact SeqAt.EqAt.same _
  |bl b=>cases rx;exact SeqAt.EqAt.none_bool b
  |int b=>obtain ⟨t,rfl⟩:=rx;exact SeqAt.EqAt.none_int b t
  |str b=>obtain ⟨t,rfl⟩:=rx;exact SeqAt.EqAt.none_str b t
  |_=>exact absurd (show false=true from fx) Bool.false_ne_true
 |bl a=>
  cases ry
  cases x with
  |non=>cases rx;exact SeqAt.EqAt.bool_none a
  |bl b=>cases rx;exact SeqAt.EqAt.bool_bool a b
  |int b=>obtain ⟨t,rfl⟩:=rx;exact SeqAt.EqAt.bool_int a b t
  |str b=>obtain ⟨t,rfl⟩:=rx;exact SeqAt.EqAt.bool_str a b t
  |_=>exact absurd (show false=true from fx) Bool.false_ne_true
 |int a=>
  obtain ⟨t',rfl⟩:=ry
  cases x with
  |non=>cases rx;exact SeqAt.EqAt.int_none a t'
  |bl b=>cases rx;exact SeqAt.EqAt.int_bool a t' b
  |int b=>obtain ⟨t,rfl⟩:=rx;exact SeqAt.EqAt.int_int a t' b t
  |str b=>obtain ⟨t,rfl⟩:=rx;exact SeqAt.EqAt.int_str a t' b t
  |_=>exact absurd (show false=true from fx) Bool.false_ne_true
 |str a=>
  obtain ⟨t',rfl⟩:=ry
  cases x with
  |non=>cases rx;exact SeqAt.EqAt.str_none a t'
  |bl b=>cases rx;exact SeqAt.EqAt.str_bool a t' b
  |int b=>obtain ⟨t,rfl⟩:=rx;exact SeqAt.EqAt.str_int a t' b t
  |str b=>obtain ⟨t,rfl⟩:=rx;exact SeqAt.EqAt.str_str a t' b t
  |_=>exact absurd (show false=true from fx) Bool.false_ne_true
 |_=>exact absurd (show false=true from fy) Bool.false_ne_true
def eqU (x:V) (u:Value):Bool:=match u with
 |.none=>eqV .non x
 |.bool b=>eqV (.bl b) x
 |.int i _=>eqV (.int i) x
 |.str z _=>eqV (.str z) x
 |_=>false
theorem eqU_of {x y:V} {u:Value} (r:RelV y u) (f:flatV y=true):eqU x u=eqV y x:=by
 cases y with
 |non=>cases r;rfl
 |bl b=>cases r;rfl
 |int i=>obtain ⟨t,rfl⟩:=r;rfl
 |str z=>obtain ⟨t,rfl⟩:=r;rfl
 |_=>exact absurd (show false=true from f) Bool.false_ne_true
theorem any_eqU {x:V}:∀{xs:List V} {us:List Value},Vals xs us->xs.all flatV=true->us.any (eqU x)=xs.any fun y=>eqV y x
 |_,_,.nil,_=>rfl
 |y::xs,u::us,.cons r t,f=>by
  rw [List.all_cons,Bool.and_eq_true] at f
  rw [List.any_cons,List.any_cons,eqU_of r f.1,any_eqU t f.2]
theorem mem_eqAt {A:Around} {s:Shared} {x:V} {v:Value} (rx:RelV x v) (fx:flatV x=true):∀{xs:List V} {us:List Value},Vals xs us->xs.all flatV=true->∀u∈us,SeqAt.EqAt A s u v (eqU x u)
 |_,_,.nil,_=>fun u hu=>by cases hu
 |y::xs,u::us,.cons r t,f=>fun u' hu=>by
  rw [List.all_cons,Bool.and_eq_true] at f
  rcases List.mem_cons.mp hu with rfl|hu
  ·rw [eqU_of r f.1];exact eqAt_V r rx f.1 fx
  ·exact mem_eqAt rx fx t f.2 u' hu
def inV (x:V) (xs:List V):Bool:=xs.any fun y=>eqV y x
def rIn (K:W.Frag) (neg:Bool):R2:=fun x y H Q=>∃p xs,y=.ref p/\(SqL K H p xs\/SqT K H p xs)/\flatV x=true/\xs.all flatV=true/\Q (.bl (if neg then !inV x xs else inV x xs)) H
theorem op_in_seq:OpR X (compareOp .In) (rIn X.K false):=by
 intro pins s σ H x y v u Q I rx ry h
 obtain ⟨p,xs,rfl,hq,fx,fs,q⟩:=h
 cases ry
 rcases hq with hq|hq
 ·obtain ⟨its,r,pl,hz⟩:=I.list hq
  refine SeqAt.in_listAt (eqU x) pl.isList (fun w hw=>mem_eqAt rx fx r fs w (by simpa using hw)) ⟨.bl _,H,I,rfl,?_⟩
  rw [show its.toArray.any (eqU x)=its.any (eqU x) by simp,any_eqU r fs]
  exact q
 ·obtain ⟨its,r,pl,hz⟩:=I.tuple hq
  refine SeqAt.in_tupleAt (eqU x) pl (fun w hw=>mem_eqAt rx fx r fs w (by simpa using hw)) ⟨.bl _,H,I,rfl,?_⟩
  rw [show its.toArray.any (eqU x)=its.any (eqU x) by simp,any_eqU r fs]
  exact q
theorem call_len_seq:CallR X (.builtin "len") (fun xs H Q=>∃p ys,xs=[.ref p]/\(SqL X.K H p ys\/SqT X.K H p ys)/\Q (.int ys.length) H):=by
 intro pins s σ H xs us Q I r h
 obtain ⟨p,ys,rfl,hq,q⟩:=h
 obtain ⟨u,rfl,rx⟩:=vals1 r
 cases rx
 have hn:=line63
 rcases hq with hq|hq
 ·obtain ⟨its,r',pl,hz⟩:=I.list hq
  have hlen:=r'.length
  exact Calls.call_len_list pl.isList (by simp only [List.size_toArray] <;> omega) ⟨.int ys.length,H,I.tok _,⟨s.toks+1,by rw [List.size_toArray,hlen]⟩,q⟩
 ·obtain ⟨its,r',pl,hz⟩:=I.tuple hq
  have hlen:=r'.length
  exact len_tuple pl (by simp only [List.size_toArray] <;> omega) ⟨.int ys.length,H,I.tok _,⟨s.toks+1,by rw [List.size_toArray,hlen]⟩,q⟩
theorem call_list_of:CallR X (.type "list") (fun xs H Q=>∃p ys,xs=[.ref p]/\(SqL X.K H p ys\/SqT X.K H p ys)/\∀l,H l=none->Q (.ref l) (upd H l (.lst ys))):=by
 intro pins s σ H xs us Q I r h
 obtain ⟨p,ys,rfl,hq,q⟩:=h
 obtain ⟨u,rfl,rx⟩:=vals1 r
 cases rx
 have fin:∀(its:List Value),Vals ys its->ys.length<=sizeLine->∀(h':Heap) (c':Nat),(∀b o',s.heap.get? b=some o'->h'.get? b=some o')->
   h'.get? s.heap.objs.size=some {cls:=.type "list",dict:=none,data:=.seq its.toArray c',slots:=#[]}->EP X pins σ Q (.ref s.heap.objs.size) {s with heap:=h'}:=fun its r' hz h' c' kp e=>
  ⟨.ref s.heap.objs.size,_,I.laid (t':=s.toks) kp (Nat.le_refl _) (show ObjOk X.prog X.w _ h' _ (.lst ys) from ⟨hz,its,c',r',e⟩),rfl,q _ (I.hok.fresh (Nat.le_refl _))⟩
 rcases hq with hq|hq
 ·obtain ⟨its,r',pl,hz⟩:=I.list hq
  have hlen:=r'.length
  obtain ⟨o,ho,hc,n,hd⟩:=pl.isList
  exact call_list_seq p (.inl rfl) ho hc hd (fun h' c' kp e=>fin its r' hz h' c' kp e) (by simp only [List.size_toArray] <;> omega)
 ·obtain ⟨its,r',pl,hz⟩:=I.tuple hq
  have hlen:=r'.length
  obtain ⟨o,ho,hc,n,hd⟩:=pl
  exact call_list_seq p (.inr rfl) ho hc hd (fun h' c' kp e=>fin its r' hz h' c' kp e) (by simp only [List.size_toArray] <;> omega)
def tyV (K:W.Frag) (T:String) (x:V) (H:Hp):Prop:=match x with
 |.str _=>T="str"
 |.int _=>T="int"
 |.ref p=>(T="list"/\∃xs,SqL K H p xs)\/(T="tuple"/\∃o,K.lookup p=some o/\o.cls=.type "tuple"/\o.dict=none)\/
   (T="dict"/\((∃kvs,H p=some (.dK kvs))\/∃kvs,H p=some (.dT kvs)))\/(T="set"/\∃S n,H p=some (.set S n))
 |_=>False
theorem tyV_is {pins:List (Addr×Obj)} {σ:St} {H:Hp} {s:Shared} {T:String} {x:V} {v:Value} (I:Inv X pins σ H s) (r:RelV x v) (ty:tyV X.K T x H):
  s.TypeIs v T/\∀a,v=.ref a->∃ob,s.heap.get? a=some ob/\ob.dict=none:=by
 cases x with
 |str z=>
  obtain ⟨t,rfl⟩:=r
  cases (show T="str" from ty)
  exact ⟨typeIs_str s z t,fun _ e=>nomatch e⟩
 |int i=>
  obtain ⟨t,rfl⟩:=r
  cases (show T="int" from ty)
  exact ⟨typeIs_int s i t,fun _ e=>nomatch e⟩
 |ref p=>
  cases r
  rcases ty with ⟨rfl,xs,hq⟩|⟨rfl,o,hk,hc,hd⟩|⟨rfl,hk⟩|⟨rfl,S,n,hk⟩
  ·obtain ⟨its,_,pl,_⟩:=I.list hq
   refine ⟨pl.isList.typeIs,fun a e=>?_⟩
   cases e
   obtain ⟨o,n,e,c,hd,_⟩:=pl
   exact ⟨o,e,hd⟩
  ·refine ⟨⟨o,I.kIn p o hk,hc⟩,fun a e=>?_⟩
   cases e
   exact ⟨o,I.kIn _ o hk,hd⟩
  ·have z:∃o,s.heap.get? p=some o/\o.ExactDict:=by
    rcases hk with ⟨kvs,hk⟩|⟨kvs,hk⟩
    ·obtain ⟨_,_,_,_,o,_,_,e,ex,_⟩:=I.hok p _ hk
     exact ⟨o,e,ex⟩
    ·obtain ⟨_,_,_,_,o,_,_,e,ex,_⟩:=I.hok p _ hk
     exact ⟨o,e,ex⟩
   obtain ⟨o,e,ex⟩:=z
   refine ⟨⟨o,e,ex.1⟩,fun a e2=>?_⟩
   cases e2
   exact ⟨o,e,ex.2.1⟩
  ·obtain ⟨o,_,_,_,e,ex,_⟩:=I.hok p _ hk
   refine ⟨⟨o,e,ex.1⟩,fun a e2=>?_⟩
   cases e2
   exact ⟨o,e,ex.2.1⟩
 |_=>exact False.elim ty
def tBM (K:W.Frag) (T:String) (r:V->List V->Hp->VK->Prop) (to:TE) (t:TA):TE:=fun σ H Q=>to σ H fun x H1=>tyV K T x H1/\t σ H1 fun xs H2=>r x xs H2 Q
variable {o e:Expr} {es:List Expr} {to:TE} {t:TA} {name:Str} {apos cpos:Pos} {T id:String} {r:V->List V->Hp->VK->Prop}
theorem pe_bm (pa:PlainAttrs T) (slot:Slot T name id) (hty:typeOf (.builtin id)=pure (.type "method_descriptor")) (hm:MtR X id r) (ho:PE X o to) (ha:PA X (e::es) t)
  (hbase:attributeBase o name X.env (eval o X.env)=eval o X.env:=by rfl)
  (hfew:((backTo cpos (starEach (e::es) X.env)).all (fun x=>!x.1)&&(backToKw cpos (keywordEach [] X.env)).all (fun x=>x.1.isSome)
   &&decide ((e::es).length+([]:List Keyword).length+(if ([]:List Keyword).isEmpty then 0 else 1) < 30))=true:=by rfl)
  (hline:(apos.endLine == cpos.line)=true:=by rfl) (hs:starEach (e::es) X.env=(false,eval e X.env)::starEach es X.env:=by rfl) (hplain:(backTo cpos (starEach es X.env)).any (·.1)=false:=by rfl):
  PE X (.Call (.Attribute o name apos) (e::es) [] cpos) (tBM X.K T r to t):=by
 intro pins s σ H Q I h
 refine wpAny_Call_method_late hbase hfew hline rfl (thn (ho pins s σ H _ I h) fun v s1 ⟨x,H1,I1,r1,ty,q1⟩=>?_)
 obtain ⟨h1,h2⟩:=tyV_is I1 r1 ty
 refine ⟨T,id,pa,slot,hty,h1,h2,?_⟩
 have hA:=ha cpos pins s1 σ H1 _ I1 q1
 rw [hs] at hA ⊢
 refine Calls.callWith_builtin (by show (false||(backTo cpos (starEach es X.env)).any (·.1))=false;rw [hplain] <;> rfl) (Calls.evalArgs_plain ?_)
 exact thn hA fun us s2 ⟨vs,H2,I2,r2,q2⟩=>hm pins s2 σ H2 x vs v us Q I2 r1 r2 q2
end
def MtM (X:Cx) (id:String) (r:V->List V->Hp->VK->Prop):Prop:=
 ∀(pins:List (Addr×Obj)) (s:Shared) (σ:St) (H:Hp) (x:V) (xs:List V) (v:Value) (us:List Value) (Q:VK),Inv X pins σ H s->RelV x v->Vals xs us->r x xs H Q->
  wpAny (model X.prog X.w) X.A (call (.builtin id) (v::us)) (EP X pins σ Q) X.xe s
theorem Vals.one:∀{x:V} {us:List Value},Vals [x] us->∃u,us=[u]/\RelV x u
 |_,_,.cons r .nil=>⟨_,rfl,r⟩
theorem Vals.rep {xs:List V} {us:List Value} (h:Vals xs us):∀k:Nat,Vals (List.replicate k xs).flatten (List.replicate k us).flatten
 |0=>.nil
 |k+1=>by
  rw [List.replicate_succ,List.replicate_succ,List.flatten_cons,List.flatten_cons]
  exact Vals.append h (Vals.rep h k)
theorem foldl_rep (its:List Value):∀(k:Nat) (acc:List Value),
  List.foldl (fun x1 x2=>x1++x2) acc.toArray (List.replicate k its.toArray)=(acc++(List.replicate k its).flatten).toArray
 |0,acc=>by simp
 |k+1,acc=>by
  have e:acc.toArray++its.toArray=(acc++its).toArray:=by simp
  have e2:(acc++its)++(List.replicate k its).flatten=acc++(List.replicate (k+1) its).flatten:=by
   rw [List.replicate_succ,List.flatten_cons,List.append_assoc]
  rw [<-e2,<-foldl_rep its k (acc++its),<-e,List.replicate_succ,List.foldl_cons]
section
variable {X:Cx} {pins:List (Addr×Obj)} {σ:St} {H:Hp} {s:Shared} {l b:Addr} {xs ys zs:List V}
theorem Inv.lset {its its':List Value} {n:Nat} {f:Array Value->Array Value} {t':Nat} (I:Inv X pins σ H s) (hH:H l=some (.lst xs))
  (e:s.heap.get? l=some {cls:=.type "list",data:=.seq its.toArray n}) (hf:f its.toArray=its'.toArray) (hv:Vals ys its') (hz:ys.length<=sizeLine):
  Inv X pins σ (upd H l (.lst ys)) {s with heap:=s.heap.update l (Obj.mapSeq f),toks:=t'}:=by
 have q:=PySem.IsL.update e f
 rw [hf] at q
 refine I.write (x:=l) (e:=l) (by rw [hH];exact trivial) (.inl rfl) (fun b' u hb hu=>(Heap.get?_update_other s.heap (Obj.mapSeq f) (Ne.symm hb)).trans hu) ⟨_,q⟩ ?_
 exact ⟨hz,its',_,hv,q⟩
theorem Inv.lnew {its:List Value} {t':Nat} (I:Inv X pins σ H s) (hv:Vals ys its) (hz:ys.length<=sizeLine):
  Inv X pins σ (upd H s.heap.objs.size (.lst ys)) {s with heap:=s.heap.push {cls:=.type "list",data:=.seq its.toArray},toks:=t'}:=
 I.laid (fun _ _ q=>Heap.get?_push_of_some _ q) (Nat.le_refl _) ⟨hz,its,0,hv,Heap.get?_push_size _ rfl⟩
theorem Inv.fresh (I:Inv X pins σ H s):H s.heap.objs.size=none:=I.hok.fresh (Nat.le_refl _)
theorem Inv.lstM (I:Inv X pins σ H s) (hH:H l=some (.lst xs)):xs.length<=sizeLine/\∃(its:List Value) (n:Nat),Vals xs its/\xs.length=its.length/\s.heap.get? l=some {cls:=.type "list",data:=.seq its.toArray n}:=by
 obtain ⟨z,its,n,r,e⟩:=I.hok l _ hH
 exact ⟨z,its,n,r,r.length,e⟩
theorem notLongL {n:Nat} (h:n<=sizeLine):Builtin.List.listTooLong n=false:=by
 unfold Builtin.List.listTooLong
 exact decide_eq_false (by omega)
end
section
variable {X:Cx}
def rAppend:V->List V->Hp->VK->Prop:=fun x vs H Q=>∃l xs y,x=.ref l/\vs=[y]/\H l=some (.lst xs)/\xs.length < sizeLine/\Q .non (upd H l (.lst (xs++[y])))
theorem mt_append:MtM X "list.append" rAppend:=by
 intro pins s σ H x vs v us Q I rx rv h
 obtain ⟨l,xs,y,rfl,rfl,hH,hz,q⟩:=h
 cases rx
 obtain ⟨u,rfl,ru⟩:=rv.one
 obtain ⟨z,its,n,r,hl,e⟩:=I.lstM hH
 refine call_meets F.slot_list_append ⟨_,e,rfl⟩ F.entry_list_append (F.args_list_append_2 _ _) (PySem.list_append l its.toArray n u (by rw [List.size_toArray];omega)) ⟨e,?_⟩
 refine ⟨.non,_,I.lset (its':=its++[u]) hH e (by simp) (r.append (.cons ru .nil)) ?_,rfl,q⟩
 rw [List.length_append,List.length_singleton]
 omega
def rExtend:V->List V->Hp->VK->Prop:=fun x vs H Q=>∃l b xs zs,x=.ref l/\vs=[.ref b]/\H l=some (.lst xs)/\H b=some (.lst zs)/\xs.length+zs.length<=sizeLine/\Q .non (upd H l (.lst (xs++zs)))
theorem mt_extend:MtM X "list.extend" rExtend:=by
 intro pins s σ H x vs v us Q I rx rv h
 obtain ⟨l,b,xs,zs,rfl,rfl,hH,hB,hz,q⟩:=h
 cases rx
 obtain ⟨u,rfl,ru⟩:=rv.one
 cases ru
 obtain ⟨z,its,n,r,hl,e⟩:=I.lstM hH
 obtain ⟨z2,its2,n2,r2,hl2,e2⟩:=I.lstM hB
 have hsz:its.toArray.size+its2.toArray.size<=sizeLine:=by rw [List.size_toArray,List.size_toArray];omega
 have hlong:¬(!its.toArray.isEmpty&&Builtin.List.listTooLong (its.toArray.size+its2.toArray.size))=true:=by
  rw [notLongL hsz,Bool.and_false]
  exact Bool.false_ne_true
 refine call_meets F.slot_list_extend ⟨_,e,rfl⟩ F.entry_list_extend (F.args_list_extend_2 _ _)
  (AutoSeq1.list_extend_list_list_0 l its.toArray n b its2.toArray n2 hlong (by rw [List.size_toArray];omega) (by omega)) ⟨e,e2,?_⟩
 refine ⟨.non,_,I.lset (its':=its++its2) hH e (by simp) (r.append r2) ?_,rfl,q⟩
 rw [List.length_append]
 omega
def rCat:R2:=fun x y H Q=>∃l b xs zs,x=.ref l/\y=.ref b/\H l=some (.lst xs)/\H b=some (.lst zs)/\xs.length+zs.length<=sizeLine/\∀p,H p=none->Q (.ref p) (upd H p (.lst (xs++zs)))
theorem op_cat:OpR X (binaryOp .Add) rCat:=by
 intro pins s σ H x y v u Q I rx ry h
 obtain ⟨l,b,xs,zs,rfl,rfl,hH,hB,hz,q⟩:=h
 cases rx
 cases ry
 obtain ⟨z,its,n,r,hl,e⟩:=I.lstM hH
 obtain ⟨z2,its2,n2,r2,hl2,e2⟩:=I.lstM hB
 refine PySem.P.add_list e e2 ?_ (by rw [List.size_toArray,List.size_toArray];omega)
 have ea:its.toArray++its2.toArray=(its++its2).toArray:=by simp
 rw [ea]
 exact ⟨.ref _,_,I.lnew (t':=s.toks) (r.append r2) (by rw [List.length_append];omega),rfl,q _ I.fresh⟩
def rRep:R2:=fun x y H Q=>∃l k xs,x=.ref l/\y=.int k/\H l=some (.lst xs)/\-(2 ^ 63)<=k/\k < 2 ^ 63/\xs.length*k.toNat<=sizeLine/\
 ∀p,H p=none->Q (.ref p) (upd H p (.lst (List.replicate k.toNat xs).flatten))
theorem len_rep {α:Type} (xs:List α) (k:Nat):(List.replicate k xs).flatten.length=k*xs.length:=by
 induction k with
 |zero=>simp
 |succ k ih=>rw [List.replicate_succ,List.flatten_cons,List.length_append,ih,Nat.succ_mul,Nat.add_comm]
theorem op_rep:OpR X (binaryOp .Mult) rRep:=by
 intro pins s σ H x y v u Q I rx ry h
 obtain ⟨l,k,xs,rfl,rfl,hH,h1,h2,hz,q⟩:=h
 cases rx
 obtain ⟨t,rfl⟩:=ry
 obtain ⟨z,its,n,r,hl,e⟩:=I.lstM hH
 have hlen:its.toArray.size*k.toNat<=sizeLine:=by rw [List.size_toArray,<-hl];exact hz
 have hcap:¬its.toArray.size*k.toNat > (2 ^ 63 - 1) / 8:=by
  have:(sizeLine:Nat)<=(2 ^ 63 - 1) / 8:=by decide
  omega
 have hfit:¬(!Builtin.List.listFitsIndex k)=true:=by
  rw [fitsIndex_both h1 h2]
  exact Bool.false_ne_true
 have hlong:¬Builtin.List.listTooLong (its.toArray.size*k.toNat)=true:=by
  rw [notLongL hlen]
  exact Bool.false_ne_true
 have hnew:List.foldl (fun x1 x2=>x1++x2) #[] (List.replicate (if its.toArray.isEmpty=true then 0 else k.toNat) its.toArray)=(List.replicate k.toNat its).flatten.toArray:=by
  have f0:∀m:Nat,List.foldl (fun x1 x2=>x1++x2) #[] (List.replicate m its.toArray)=(List.replicate m its).flatten.toArray:=fun m=>by
   have:=foldl_rep its m []
   rw [List.nil_append] at this
   exact this
  rw [f0]
  cases its with
  |nil=>simp
  |cons a r'=>rw [if_neg (by simp)]
 refine wpAny_binaryOp_repeat_ref (T:="list") (U:="int") (by decide) ⟨_,e,rfl⟩ (fun s'=>typeIs_int s' k t) noFill_list_mul F.fills_int_mul F.slot_int_rmul repeat_list F.slot_int_index.lookup
  (call_meets F.slot_int_rmul (typeIs_int s k t) F.entry_int_rmul (F.args_int_rmul_2 _ _) (int___rmul___int_list k t l its.toArray n)
   ⟨e,rfl,⟨_,e,rfl⟩,call_meets F.slot_list_mul ⟨_,e,rfl⟩ F.entry_list_mul (F.args_list_mul_2 _ _) (AutoListH.list___mul___list_int_3 l its.toArray n k t hfit hcap hlong) ⟨e,?_⟩⟩)
 rw [hnew]
 exact ⟨.ref _,_,I.lnew (t':=s.toks) (r.rep k.toNat) (by rw [len_rep,Nat.mul_comm];exact hz),rfl,q _ I.fresh⟩
end
section
variable {prog:Program} {w:World} {A:Around} {E:Value->Shared->Prop} {s:Shared}
set_option maxRecDepth 100000 in
end
section
variable {X:Cx}
end
theorem Vals.bls:∀{bs:List Bool} {us:List Value},Vals (bs.map V.bl) us->us=bs.map Value.bool
 |[],us,h=>by
  rw [List.map_nil] at h
  cases h
  rfl
 |b::bs,us,h=>by
  rw [List.map_cons] at h
  cases h with
  |cons r t=>
   cases r
   rw [Vals.bls t,List.map_cons]
theorem Vals.ref1 {a:Addr} {us:List Value} (r:Vals [V.ref a] us):us=[Value.ref a]:=by
 cases r with
 |cons r t=>
  cases t
  cases r
  rfl
section
variable {prog:Program} {w:World} {A:Around} {E:Value->Shared->Prop} {s:Shared} {l:Addr} {its:List Value} {ns:List Int} {Q:Value->Shared->Prop}
end
section
variable {X:Cx}
end
section
variable {X:Cx}
end
section
variable {X:Cx}
end
theorem iter_any {prog:Program} {w:World} {A:Around} {E:Value->Shared->Prop} {s:Shared} {l:Addr} {items:Array Value} {Q:Value->Shared->Prop} (hl:s.heap.IsList l items)
  (h:∀s₂:Shared,s₂={s with heap:=s.heap.push {cls:=.type "list_iterator",data:=.fields #[.ref l,.int 0 0]}}->
   (s₂.heap.IsListIter s.heap.objs.size l 0/\s₂.heap.IsList l items)->l≠s.heap.objs.size->Q (.ref s.heap.objs.size) s₂):wpAny (model prog w) A (pyIter (.ref l)) Q E s:=by
 have hlt:l < s.heap.objs.size:=by obtain ⟨_,e,_⟩:=hl;exact Heap.lt_size e
 exact wpAny_pyIter_list hl (h _ rfl ⟨⟨_,Heap.get?_push_size _ rfl,rfl,rfl⟩,hl.push _⟩ (Nat.ne_of_lt hlt))
theorem truth_bools {prog:Program} {w:World} {A:Around} {bs:List Bool} {its:List Value} (e:its=bs.map Value.bool):
  TruthOf prog w A (fun i v=>its.toArray[i]?=some v) (fun i=>bs.getD i false):=fun i v s Q E hv hq=>by
 have hv':its[i]?=some v:=by simpa using hv
 rw [e,List.getElem?_map] at hv'
 obtain ⟨b,hb,rfl⟩:=Option.map_eq_some_iff.mp hv'
 have hg:bs.getD i false=b:=by rw [List.getD_eq_getElem?_getD,hb] <;> rfl
 have hq':Q (bs.getD i false) s:=hq
 rw [hg] at hq'
 exact wpAny_truthy_bool hq'
theorem any_range:∀bs:List Bool,(List.range bs.length).any (fun i=>bs.getD i false)=bs.any id
 |[]=>rfl
 |b::bs=>by
  rw [List.length_cons,List.range_succ_eq_map,List.any_cons,List.any_map,List.any_cons,<-any_range bs]
  all_goals rfl
section
variable {X:Cx}
def rAny (K:W.Frag):List V->Hp->VK->Prop:=fun vs H Q=>∃(a:Addr) (bs:List Bool),vs=[V.ref a]/\SqL K H a (bs.map V.bl)/\Q (.bl (bs.any id)) H
theorem cr_any (hc:X.calm=true):CallR X (.builtin "any") (rAny X.K):=by
 intro pins s σ H vs us Q I r h
 obtain ⟨a,bs,rfl,hs,q⟩:=h
 obtain ⟨its,rv,hl,_⟩:=I.list hs
 rw [Vals.ref1 r]
 have hb:=rv.bls
 refine call_any_walk (iter_any hl.isList fun s₂ e2 st hne=>?_)
 subst e2
 refine ⟨_,_,_,_,_,_,_,rfl,Walks.list (A:=X.A.in1) (I.ok.hd hc) _ a hne its.toArray,st,truth_bools hb,fun h' tk hk=>?_⟩
 refine ⟨.bl _,H,I.kept fun b o eo=>hk b o (fun hmem=>?_) (Heap.get?_push_of_some _ eo),?_,q⟩
 ·rcases List.mem_cons.mp hmem with e1|hmem
  ·exact absurd (e1 ▸ Heap.lt_size eo) (Nat.lt_irrefl _)
  ·cases hmem
 ·show Value.bool _=Value.bool _
  rw [<-any_range,hb,List.size_toArray,List.length_map]
end
mutual
inductive Dp (K:W.Frag) (H:Hp):V->PyData->Prop
 |non:Dp K H .non .none
 |bl (b:Bool):Dp K H (.bl b) (.bool b)
 |int (i:Int):Dp K H (.int i) (.int i)
 |str (x:Str):Dp K H (.str x) (.str x)
 |lst {a:Addr} {xs:List V} {ds:List PyData}:SqL K H a xs->DpAll K H xs ds->Dp K H (.ref a) (.list ds)
 |tup {a:Addr} {xs:List V} {ds:List PyData}:SqT K H a xs->DpAll K H xs ds->Dp K H (.ref a) (.tuple ds)
inductive DpAll (K:W.Frag) (H:Hp):List V->List PyData->Prop
 |nil:DpAll K H [] []
 |cons {v:V} {vs:List V} {d:PyData} {ds:List PyData}:Dp K H v d->DpAll K H vs ds->DpAll K H (v::vs) (d::ds)
end
section
variable {X:Cx} {pins:List (Addr×Obj)} {σ:St} {H:Hp} {s:Shared}
mutual
theorem Dp.reads (I:Inv X pins σ H s):∀(d:PyData) (v:V) (u:Value),Dp X.K H v d->RelV v u->∃as,Reads s.heap u d as
 |.none,_,_,h,r=>by
  cases h
  cases r
  exact ⟨_,Reads.none⟩
 |.bool b,_,_,h,r=>by
  cases h
  cases r
  exact ⟨_,Reads.bool b⟩
 |.int i,_,_,h,r=>by
  cases h
  obtain ⟨t,rfl⟩:=r
  exact ⟨_,Reads.int i t⟩
 |.str x,_,_,h,r=>by
  cases h
  obtain ⟨t,rfl⟩:=r
  exact ⟨_,Reads.str x t⟩
 |.list ds,_,_,h,r=>by
  cases h with
  |lst hs ha=>
   cases r
   obtain ⟨its,rv,⟨o,n,ho,hc,_,hd⟩,_⟩:=I.list hs
   obtain ⟨as,hr⟩:=Dp.readsAll I ds _ its ha rv
   exact ⟨_,Reads.list ho hc hd hr⟩
 |.tuple ds,_,_,h,r=>by
  cases h with
  |tup hs ha=>
   cases r
   obtain ⟨its,rv,⟨o,ho,hc,n,hd⟩,_⟩:=I.tuple hs
   obtain ⟨as,hr⟩:=Dp.readsAll I ds _ its ha rv
   exact ⟨_,Reads.tuple ho hc hd hr⟩
 |.dict _,_,_,h,_=>by cases h
theorem Dp.readsAll (I:Inv X pins σ H s):∀(ds:List PyData) (vs:List V) (us:List Value),DpAll X.K H vs ds->Vals vs us->∃as,ReadsAll s.heap us ds as
 |[],_,_,h,r=>by
  cases h
  cases r
  exact ⟨_,ReadsAll.nil⟩
 |d::ds,_,_,h,r=>by
  cases h with
  |cons h1 h2=>
   cases r with
   |cons r1 r2=>
    obtain ⟨as,q1⟩:=Dp.reads I d _ _ h1 r1
    obtain ⟨bs,q2⟩:=Dp.readsAll I ds _ _ h2 r2
    exact ⟨_,ReadsAll.cons q1 q2⟩
end
end
section
variable {X:Cx}
def rNeD (K:W.Frag):R2:=fun x y H Q=>∃d e,Dp K H x d/\Dp K H y e/\SeqAt.shaped d=true/\SeqAt.shaped e=true/\Q (.bl (!PyData.eqv d e)) H
theorem op_neD (hu:X.A.units+64 < cLine):OpR X (compareOp .NotEq) (rNeD X.K):=by
 intro pins s σ H x y v u Q I rx ry h
 obtain ⟨d,e,hd,he,sd,se,q⟩:=h
 obtain ⟨as,r1⟩:=Dp.reads I d x v hd rx
 obtain ⟨bs,r2⟩:=Dp.reads I e y u he ry
 exact SeqAt.compareNe_shaped r1 r2 sd se hu ⟨.bl _,H,I,rfl,q⟩
end
abbrev CellAt (h:Heap) (c:Addr) (v:Option Value):Prop:=h.IsCell c v
def relS (scope sc:Scope):Scope:=
 {scope with names:=scope.names.map fun (n,k)=>if (k == .free&&sc.kind == .function&&sc.names.lookup n == some .cell) then (n,.cell) else (n,k)}
def cloFrom (cells:List (Str×Addr)):List (Str×NameKind)->List (Str×Addr)->List (Str×Addr)
 |[],acc=>acc
 |(n,k)::r,acc=>if k == .free then cloFrom cells r ((n,(cells.lookup n).getD 0)::acc) else cloFrom cells r acc
theorem closure_loop (env:Env) (f:Str×NameKind->List (Str×Addr)->Sem (ForInStep (List (Str×Addr))))
  (hf:∀n k c,f (n,k) c=if k == .free then (do let a <-cellOf env n;pure (.yield ((n,a)::c))) else pure (.yield c)):
  ∀(names:List (Str×NameKind)) (acc:List (Str×Addr)),(∀y∈names,y.2=.free->∃c,env.cells.lookup y.1=some c)->forIn names acc f=pure (cloFrom env.cells names acc)
 |[],acc,_=>by rw [List.forIn_nil];rfl
 |(n,k)::r,acc,h=>by
  rw [List.forIn_cons,hf]
  have ih:=fun acc=>closure_loop env f hf r acc fun y hy=>h y (List.mem_cons_of_mem _ hy)
  unfold cloFrom
  by_cases hk:(k == NameKind.free)=true
  ·rw [if_pos hk,if_pos hk]
   obtain ⟨c,hc⟩:=h (n,k) List.mem_cons_self (by simpa using hk)
   have e:cellOf env n=pure c:=by unfold cellOf;rw [hc]
   rw [e]
   have e2:(env.cells.lookup n).getD 0=c:=by rw [hc];rfl
   rw [e2]
   exact ih _
  ·rw [if_neg hk,if_neg hk]
   exact ih _
theorem closure_ok {scope:Scope} {env:Env} (h:∀y∈scope.names,y.2=.free->∃c,env.cells.lookup y.1=some c):closureFor scope env=pure (cloFrom env.cells scope.names []):=by
 simp only [closureFor]
 rw [closure_loop env _ (fun n k c=>rfl) scope.names [] h]
 rfl
theorem mem_lookup {α:Type}:∀{l:List (Str×α)} {n:Str} {c:α},(n,c)∈l->∃c',l.lookup n=some c'
 |(k,v)::r,n,c,h=>by
  rw [List.lookup_cons]
  cases hb:n == k with
  |true=>exact ⟨_,rfl⟩
  |false=>
   rcases List.mem_cons.mp h with e|h
   ·cases e;simp at hb
   ·exact mem_lookup h
theorem cloFrom_mem {cells:List (Str×Addr)}:∀{names:List (Str×NameKind)} {acc:List (Str×Addr)} {n:Str} {c:Addr},(n,c)∈cloFrom cells names acc->(n,c)∈acc\/((n,.free)∈names/\c=(cells.lookup n).getD 0)
 |[],_,_,_,h=>.inl h
 |(m,k)::r,acc,n,c,h=>by
  unfold cloFrom at h
  split at h
  ·rename_i hk
   have hk:k=.free:=by simpa using hk
   rcases cloFrom_mem h with h|⟨h1,h2⟩
   ·rcases List.mem_cons.mp h with e|h
    ·cases e;exact .inr ⟨hk ▸ List.mem_cons_self,rfl⟩
    ·exact .inl h
   ·exact .inr ⟨List.mem_cons_of_mem _ h1,h2⟩
  ·rcases cloFrom_mem h with h|⟨h1,h2⟩
   ·exact .inl h
   ·exact .inr ⟨List.mem_cons_of_mem _ h1,h2⟩
theorem cloFrom_acc {cells:List (Str×Addr)}:∀{names:List (Str×NameKind)} {acc:List (Str×Addr)} {p:Str×Addr},p∈acc->p∈cloFrom cells names acc
 |[],_,_,h=>h
 |(m,k)::r,acc,p,h=>by
  unfold cloFrom
  split
  ·exact cloFrom_acc (List.mem_cons_of_mem _ h)
  ·exact cloFrom_acc h
theorem cloFrom_has {cells:List (Str×Addr)}:∀{names:List (Str×NameKind)} {acc:List (Str×Addr)} {n:Str},(n,.free)∈names->(n,(cells.lookup n).getD 0)∈cloFrom cells names acc
 |(m,k)::r,acc,n,h=>by
  unfold cloFrom
  rcases List.mem_cons.mp h with e|h
  ·cases e
   exact cloFrom_acc List.mem_cons_self
  ·split
   ·exact cloFrom_has h
   ·exact cloFrom_has h
theorem cells_mem:∀{names:List (Str×NameKind)} {h:Heap} {acc:List (Str×Addr)} {x:Str} {c:Addr},(x,c)∈cellsFrom h.objs.size names acc->
  (x,c)∈acc\/((x,.cell)∈names/\h.objs.size<=c/\CellAt (pushCells h names) c none)
 |[],_,_,_,_,h=>.inl h
 |(n,k)::r,h,acc,x,c,hm=>by
  unfold cellsFrom at hm
  unfold pushCells
  split at hm
  ·rename_i hk
   rw [if_pos hk]
   have hk:k=.cell:=by simpa using hk
   rw [<-Heap.size_push h {cls:=.type "cell",data:=.cell none}] at hm
   rcases cells_mem hm with hm|⟨h1,h2,h3⟩
   ·rcases List.mem_cons.mp hm with e|hm
    ·cases e
     exact .inr ⟨hk ▸ List.mem_cons_self,Nat.le_refl _,_,pushCells_keeps r _ _ _ (Heap.get?_push_size _ rfl),rfl⟩
    ·exact .inl hm
   ·rw [Heap.size_push] at h2
    exact .inr ⟨List.mem_cons_of_mem _ h1,Nat.le_of_succ_le h2,h3⟩
  ·rename_i hk
   rw [if_neg hk]
   rcases cells_mem hm with hm|⟨h1,h2,h3⟩
   ·exact .inl hm
   ·exact .inr ⟨List.mem_cons_of_mem _ h1,h2,h3⟩
theorem cells_acc:∀{names:List (Str×NameKind)} {n:Nat} {acc:List (Str×Addr)} {p:Str×Addr},p∈acc->p∈cellsFrom n names acc
 |[],_,_,_,h=>h
 |(m,k)::r,n,acc,p,h=>by
  unfold cellsFrom
  split
  ·exact cells_acc (List.mem_cons_of_mem _ h)
  ·exact cells_acc h
theorem cells_has:∀{names:List (Str×NameKind)} {n:Nat} {acc:List (Str×Addr)} {x:Str},(x,.cell)∈names->∃c,(x,c)∈cellsFrom n names acc
 |(m,k)::r,n,acc,x,h=>by
  unfold cellsFrom
  rcases List.mem_cons.mp h with e|h
  ·cases e
   exact ⟨n,cells_acc List.mem_cons_self⟩
  ·split
   ·exact cells_has h
   ·exact cells_has h
theorem cells_inj:∀{names:List (Str×NameKind)} {h:Heap} {acc:List (Str×Addr)} {x y:Str} {c:Addr},(∀p∈acc,p.2 < h.objs.size)->(∀x y c,(x,c)∈acc->(y,c)∈acc->x=y)->
  (x,c)∈cellsFrom h.objs.size names acc->(y,c)∈cellsFrom h.objs.size names acc->x=y
 |[],_,_,_,_,_,_,hi,h1,h2=>hi _ _ _ h1 h2
 |(n,k)::r,h,acc,x,y,c,hl,hi,h1,h2=>by
  unfold cellsFrom at h1 h2
  split at h1
  ·rename_i hk
   rw [if_pos hk] at h2
   rw [<-Heap.size_push h {cls:=.type "cell",data:=.cell none}] at h1 h2
   refine cells_inj (h:=h.push _) (fun p hp=>?_) (fun x y c a b=>?_) h1 h2
   ·rw [Heap.size_push]
    rcases List.mem_cons.mp hp with rfl|hp
    ·exact Nat.lt_succ_self _
    ·exact Nat.lt_succ_of_lt (hl p hp)
   ·rcases List.mem_cons.mp a with e|a <;> rcases List.mem_cons.mp b with e'|b
    ·cases e;cases e';rfl
    ·cases e;exact absurd (hl _ b) (Nat.lt_irrefl _)
    ·cases e';exact absurd (hl _ a) (Nat.lt_irrefl _)
    ·exact hi _ _ _ a b
  ·rename_i hk
   rw [if_neg hk] at h2
   exact cells_inj hl hi h1 h2
theorem newEnv_comp {M:Model} {A:Around} {E:Value->Shared->Prop} {s:Shared} {scope:Scope} {globals:Addr} {closure:List (Str×Addr)} {qual:Str} {func:Option Addr} {code:Value} {around:Env} {builtins:Addr} {Q:Env->Shared->Prop}
  (h:Q (newEnv scope s.heap.objs.size globals (cellsFrom (s.heap.objs.size+1) scope.names closure) qual func code (some around) builtins)
   {s with heap:=pushCells (s.heap.push {cls:=.type "dict",data:=.dict #[]}) scope.names}):
  wpAny M A (newFunctionEnv scope globals closure [] qual func code (some around) builtins) Q E s:=by
 simp only [newFunctionEnv,Option.isSome_some,if_true]
 refine wpAny_bind (wpAny_alloc ?_)
 refine wpAny_bind (wpAny_layCells _ (fun n k c=>rfl) scope.names closure _ _ ?_)
 rw [show ({s with heap:=s.heap.push {cls:=.type "dict",data:=.dict #[]}}:Shared).heap.objs.size=s.heap.objs.size+1 from Heap.size_push ..]
 rw [List.forIn_nil]
 exact wpAny_bind (wpAny_pure (wpAny_pure h))
theorem lookup_relS {sc:Scope}:∀{names:List (Str×NameKind)} {x:Str} {k:NameKind},
  (names.map fun (n,k)=>if (k == NameKind.free&&sc.kind == .function&&sc.names.lookup n == some .cell) then (n,NameKind.cell) else (n,k)).lookup x=some k->
  ∃k',names.lookup x=some k'/\(k=k'\/(k'=.free/\k=.cell))
 |[],_,_,h=>by simp at h
 |(n,k₀)::r,x,k,h=>by
  have ih:=@lookup_relS sc r x k
  have h':List.lookup x ((if (k₀ == NameKind.free&&sc.kind == .function&&sc.names.lookup n == some .cell)=true then (n,NameKind.cell) else (n,k₀))::(r.map _))=some k:=h
  cases hx:x == n with
  |true=>
   simp only [List.lookup_cons,hx]
   by_cases hc:(k₀ == NameKind.free&&sc.kind == .function&&sc.names.lookup n == some .cell)=true
   ·rw [if_pos hc] at h'
    simp only [List.lookup_cons,hx] at h'
    cases h'
    simp only [Bool.and_eq_true,beq_iff_eq] at hc
    exact ⟨k₀,rfl,.inr ⟨hc.1.1,rfl⟩⟩
   ·rw [if_neg hc] at h'
    simp only [List.lookup_cons,hx] at h'
    cases h'
    exact ⟨_,rfl,.inl rfl⟩
  |false=>
   simp only [List.lookup_cons,hx]
   by_cases hc:(k₀ == NameKind.free&&sc.kind == .function&&sc.names.lookup n == some .cell)=true
   ·rw [if_pos hc] at h'
    simp only [List.lookup_cons,hx] at h'
    exact ih h'
   ·rw [if_neg hc] at h'
    simp only [List.lookup_cons,hx] at h'
    exact ih h'
structure BlkOk (N:List Str) (sc scope:Scope) (own:List (Str×Nat)):Prop where
 kind:scope.kind=.function
 uniq:∀y∈scope.names,scope.names.lookup y.1=some y.2
 ix:∀p∈own,N[p.2]?=some p.1
 free:∀y∈scope.names,y.2=.free->sc.names.lookup y.1=some .cell\/sc.names.lookup y.1=some .free
 own:∀y∈scope.names,y.2=.local\/y.2=.cell->y.1∈own.map (·.1)\/y.1∉N
def wipe (σ:St):List Nat->St
 |[]=>σ
 |v::vs=>(wipe σ vs).set v none
theorem wipe_length (σ:St):∀vs:List Nat,(wipe σ vs).length=σ.length
 |[]=>rfl
 |v::vs=>by unfold wipe;rw [List.length_set,wipe_length σ vs]
theorem wipe_some {σ:St} {i:Nat} {x:V}:∀{vs:List Nat},(wipe σ vs)[i]?=some (some x)->σ[i]?=some (some x)/\i∉vs
 |[],h=>⟨h,by simp⟩
 |v::vs,h=>by
  unfold wipe at h
  by_cases hi:v=i
  ·subst hi
   by_cases hv:v < (wipe σ vs).length
   ·rw [List.getElem?_set_self hv] at h;cases h
   ·rw [List.getElem?_eq_none (by simpa using hv)] at h;cases h
  ·rw [List.getElem?_set_ne hi] at h
   obtain ⟨h1,h2⟩:=wipe_some h
   exact ⟨h1,by simp only [List.mem_cons,not_or];exact ⟨fun e=>hi e.symm,h2⟩⟩
abbrev Cx.blk (X:Cx) (s:Shared) (H:Hp) (scope:Scope) (cenv:Env) (fp:List Addr):Cx:={X with s_0:=s,H_0:=H,env:=cenv,outer:=X.stack,ex:=fp,fn:=fun x=>scope.names.lookup x == some .cell,pn:=[],xe:=fun _ _=>False}
section
variable {X:Cx} {pins:List (Addr×Obj)} {σ:St} {H:Hp} {s:Shared}
theorem block_start {scope:Scope} {own:List (Str×Nat)} {fp:List Addr} (I:Inv X pins σ H s) (ok:BlkOk X.N X.env.scope scope own) (hN:X.N.Nodup) (hfp:∀b∈fp,FpOk X pins H b/\b < s.heap.objs.size):
  Inv (X.blk s H scope (compEnvC scope (cellsFrom (s.heap.objs.size+1) scope.names (cloFrom X.env.cells scope.names [])) s.heap.objs.size X.env) fp) [] (wipe σ (own.map (·.2))) H {s with heap:=pushCells (s.heap.push {cls:=.type "dict",data:=.dict #[]}) scope.names}:=by
 have hfree:∀y∈scope.names,y.2=.free->∃c,X.env.cells.lookup y.1=some c:=fun y hy e=>by
  rcases ok.free y hy e with k|k
  ·exact I.ok.has _ (.inl k)
  ·exact I.ok.has _ (.inr k)
 generalize hcenv:compEnvC scope (cellsFrom (s.heap.objs.size+1) scope.names (cloFrom X.env.cells scope.names [])) s.heap.objs.size X.env=cenv
 have kp:∀b o,s.heap.get? b=some o->(pushCells (s.heap.push {cls:=.type "dict",data:=.dict #[]}) scope.names).get? b=some o:=fun b o e=>pushCells_keeps _ _ _ _ (Heap.get?_push_of_some _ e)
 have hL:cenv.locals=s.heap.objs.size:=by rw [<-hcenv];rfl
 have hcl:cenv.cells=cellsFrom (s.heap.objs.size+1) scope.names (cloFrom X.env.cells scope.names []):=by rw [<-hcenv];rfl
 have hsc:cenv.scope=relS scope X.env.scope:=by rw [<-hcenv];rfl
 rw [<-Heap.size_push s.heap {cls:=.type "dict",data:=.dict #[]}] at hcl
 have cm:∀{y c},(y,c)∈cloFrom X.env.cells scope.names []->X.env.cells.lookup y=some c/\c < s.heap.objs.size:=fun {y c} hm=>by
  rcases cloFrom_mem hm with hm|⟨h1,rfl⟩
  ·cases hm
  ·obtain ⟨c,hc⟩:=hfree _ h1 rfl
   rw [hc]
   obtain ⟨w,z⟩:=I.cell _ _ hc
   exact ⟨rfl,z.lt⟩
 have mem:∀{y c},cenv.cells.lookup y=some c->(X.env.cells.lookup y=some c/\c < s.heap.objs.size)\/(s.heap.objs.size+1<=c/\CellAt (pushCells (s.heap.push {cls:=.type "dict",data:=.dict #[]}) scope.names) c none):=fun {y c} e=>by
  rw [hcl] at e
  rcases cells_mem (PySem.mem_of_lookup e) with hm|⟨_,h2,h3⟩
  ·exact .inl (cm hm)
  ·rw [Heap.size_push] at h2;exact .inr ⟨h2,h3⟩
 have look:∀{y},scope.names.lookup y=some .free->∃c,cenv.cells.lookup y=some c/\X.env.cells.lookup y=some c:=fun {y} hl=>by
  have hy:(y,NameKind.free)∈scope.names:=PySem.mem_of_lookup hl
  obtain ⟨c',e'⟩:=mem_lookup (cells_acc (names:=scope.names) (n:=(s.heap.push {cls:=.type "dict",data:=.dict #[]}).objs.size) (cloFrom_has (cells:=X.env.cells) (acc:=[]) hy))
  rw [<-hcl] at e'
  refine ⟨c',e',?_⟩
  rw [hcl] at e'
  rcases cells_mem (PySem.mem_of_lookup e') with hm|⟨h1,_,_⟩
  ·exact (cm hm).1
  ·have:=ok.uniq _ h1
   rw [hl] at this;cases this
 have okB:(X.blk s H scope cenv fp).Ok:=by
  refine ⟨I.ok.mod,by show cenv.scope.kind=_;rw [hsc];exact ok.kind,by show cenv.globals=_;rw [<-hcenv];exact I.ok.glob,by show cenv.builtins=_;rw [<-hcenv];exact I.ok.blt,by show s.heap.objs.size<=cenv.locals;rw [hL];exact Nat.le_refl _,
   fun y z c e1 e2=>?_,fun y hy=>?_,fun y c z e=>?_,I.ok.hd,I.ok.frames,.inl rfl,fun b hb=>⟨?_,fun y c e z=>?_⟩,I.bs,Nat.le_trans I.ok.bsz I.sz,fun b o e hb=>?_,fun b hb z=>?_,I.stack,I.stkFree⟩
  ·have e1:cenv.cells.lookup y=some c:=e1
   have e2:cenv.cells.lookup z=some c:=e2
   rw [hcl] at e1 e2
   refine cells_inj (fun p hp=>?_) (fun y z c a b=>I.ok.inj y z c (cm a).1 (cm b).1) (PySem.mem_of_lookup e1) (PySem.mem_of_lookup e2)
   rw [Heap.size_push]
   exact Nat.lt_succ_of_lt (cm (y:=p.1) (c:=p.2) hp).2
  ·show ∃c,cenv.cells.lookup y=some c
   have key:∀k,cenv.kindOf y=some k->(k=.cell\/k=.free)->∃c,cenv.cells.lookup y=some c:=fun k hk hk'=>by
    unfold Env.kindOf at hk
    rw [hsc] at hk
    obtain ⟨k',e,r⟩:=lookup_relS hk
    have:k'=.cell\/k'=.free:=by
     rcases r with rfl|⟨rfl,_⟩
     ·exact hk'
     ·exact .inr rfl
    rcases this with rfl|rfl
    ·obtain ⟨c,hm⟩:=cells_has (n:=(s.heap.push {cls:=.type "dict",data:=.dict #[]}).objs.size) (acc:=cloFrom X.env.cells scope.names []) (PySem.mem_of_lookup e)
     obtain ⟨c',e'⟩:=mem_lookup hm
     exact ⟨c',by rw [hcl];exact e'⟩
    ·obtain ⟨c,h1,_⟩:=look e
     exact ⟨c,h1⟩
   rcases hy with hy|hy
   ·exact key _ hy (.inl rfl)
   ·exact key _ hy (.inr rfl)
  ·have z:(scope.names.lookup y == some NameKind.cell)=true:=z
   have z:scope.names.lookup y=some .cell:=by simpa using z
   have e:cenv.cells.lookup y=some c:=e
   rw [hcl] at e
   rcases cells_mem (PySem.mem_of_lookup e) with hm|⟨_,h2,_⟩
   ·rcases cloFrom_mem hm with hm|⟨h1,_⟩
    ·cases hm
    ·have q:=ok.uniq _ h1
     rw [z] at q;cases q
   ·rw [Heap.size_push] at h2
    exact Nat.le_of_succ_le h2
  ·show b≠cenv.locals
   rw [hL];exact Nat.ne_of_lt (hfp b hb).2
  ·have e:cenv.cells.lookup y=some c:=e
   rcases mem e with ⟨h1,_⟩|⟨h1,_⟩
   ·exact (hfp b hb).1.2.2.2.2.1 y c h1 z
   ·have h2:s.heap.objs.size+1<=b:=by rw [<-z];exact h1
    exact absurd (Nat.lt_of_lt_of_le (hfp b hb).2 (Nat.le_of_succ_le h2)) (Nat.lt_irrefl _)
  ·rcases (hfp b hb).1.2.2.2.1 with z|z
   ·exact I.ok.noex b o e z
   ·exact absurd (Nat.lt_of_lt_of_le (Heap.lt_size e) (Nat.le_trans I.ok.bsz z)) (Nat.lt_irrefl _)
  ·rcases List.mem_cons.mp (I.stkSub b z) with z|z
   ·exact (hfp b hb).1.2.1 z
   ·exact (hfp b hb).1.2.2.1 z
 refine ⟨okB,rfl,I.bare,Un.kept kp,⟨fun _=>none,?_,fun i y av e1 e2 e3=>?_⟩,fun y c e=>?_,?_,fun y c e=>?_,fun p hp=>?_,I.hok.kept kp,by rw [wipe_length];exact I.len⟩
 ·show Heap.Ns _ cenv.locals _
  rw [hL]
  exact Heap.Ns.keeps (Heap.Ns.new ..) fun b o e=>pushCells_keeps _ _ _ _ e
 ·obtain ⟨e2,hne⟩:=wipe_some e2
  have hfr:scope.names.lookup y=some .free/\(cenv.kindOf y=some .cell\/cenv.kindOf y=some .free):=by
   have key:∀k,cenv.scope.names.lookup y=some k->k=.local\/k=.cell\/k=.free->scope.names.lookup y=some .free/\(cenv.kindOf y=some .cell\/cenv.kindOf y=some .free):=fun k hk hk'=>by
    have hk0:=hk
    rw [hsc] at hk
    obtain ⟨k',e,r⟩:=lookup_relS hk
    have no:¬(k'=.local\/k'=.cell):=fun hh=>by
     rcases ok.own _ (PySem.mem_of_lookup e) hh with e'|e'
     ·obtain ⟨p,hp,hpy⟩:=List.mem_map.mp e'
      have e3:=ok.ix p hp
      have:p.1=y:=hpy
      rw [this] at e3
      exact hne (List.mem_map.mpr ⟨p,hp,nodup_ix hN e3 e1⟩)
     ·exact e' (List.mem_of_getElem? e1)
    rcases r with rfl|⟨rfl,rfl⟩
    ·rcases hk' with rfl|rfl|rfl
     ·exact absurd (.inl rfl) no
     ·exact absurd (.inr rfl) no
     ·exact ⟨e,.inr hk0⟩
    ·exact ⟨e,.inl hk0⟩
   have e3:Vis cenv.scope y:=e3
   rcases e3 with e3|e3|e3
   ·exact key _ e3 (.inl rfl)
   ·exact key _ e3 (.inr (.inl rfl))
   ·exact key _ e3 (.inr (.inr rfl))
  obtain ⟨m,hn,hl⟩:=I.loc
  have hvis:Vis X.env.scope y:=(ok.free _ (PySem.mem_of_lookup hfr.1) rfl).elim (fun k=>.inr (.inl k)) (fun k=>.inr (.inr k))
  obtain ⟨w,r,q⟩:=hl i y av e1 e2 hvis
  refine ⟨w,r,.inr ⟨hfr.2,?_⟩⟩
  obtain ⟨c,h1,h2⟩:=look hfr.1
  rcases q with ⟨k,_⟩|⟨_,c',e',z⟩
  ·have k:X.env.scope.names.lookup y=some .local:=k
   rcases ok.free _ (PySem.mem_of_lookup hfr.1) rfl with k'|k' <;> rw [show X.env.scope.names.lookup y=_ from k'] at k <;> cases k
  ·rw [h2] at e';cases e'
   exact ⟨c,h1,z.keeps kp⟩
 ·have e:cenv.cells.lookup y=some c:=e
  rcases mem e with ⟨h1,_⟩|⟨_,z⟩
  ·obtain ⟨w,z⟩:=I.cell y c h1
   exact ⟨w,z.keeps kp⟩
  ·exact ⟨_,z⟩
 ·show H cenv.locals=none
  rw [hL];exact I.hok.fresh (Nat.le_refl _)
 ·have e:cenv.cells.lookup y=some c:=e
  rcases mem e with ⟨h1,_⟩|⟨h1,_⟩
  ·exact I.freeC y c h1
  ·exact I.hok.fresh (Nat.le_of_succ_le h1)
 ·exact absurd (show p∈([]:List (Addr×Obj))++[] from hp) (by simp)
theorem app_ok {E:Value->Shared->Prop} {D:Addr} {xs:List V} {y:V} {v:Value} {Q:Value->Shared->Prop} (I:Inv X pins σ H s) (hD:H D=some (.lst xs)) (hz:xs.length < sizeLine) (r:RelV y v)
  (h:∀s',Inv X pins σ (upd H D (.lst (xs++[y]))) s'->Q .none s'):wpAny (model X.prog X.w) X.A (call (.builtin "list.append") [.ref D,v]) Q E s:=by
 obtain ⟨hz',its,n,ri,e⟩:=I.hok D _ hD
 have hl:=ri.length
 refine append_at (hsz:=by rw [List.size_toArray];omega) e fun h' sb ho'=>?_
 refine h {s with heap:=h'} (I.write (t':=s.toks) (by rw [hD];trivial) (.inl rfl) (fun b u hb q=>(sb.2 b hb).trans q) ⟨_,ho'⟩ ⟨by rw [List.length_append];exact hz,its++[v],n+1,ri.append (.cons r .nil),?_⟩)
 rw [ho']
 simp
def PTs (X:Cx) (ifs:List Expr) (t:TT):Prop:=
 ∀(pins:List (Addr×Obj)) (s:Shared) (σ:St) (H:Hp) (Q:Bool->Hp->Prop),Inv X pins σ H s->t σ H Q->
  wpAny (model X.prog X.w) X.A (forIn ifs true fun c r=>if r=true then do let ok <-isTrue c X.env (eval c X.env);pure (ForInStep.yield ok) else pure (ForInStep.yield r)) (TP X pins σ Q) X.xe s
def tYes:TT:=fun _ H Q=>Q true H
theorem pts_nil:PTs X [] tYes:=fun _ _ _ H _ I h=>wpAny_tests_nil ⟨H,I,h⟩
theorem pts_one {c:Expr} {t:TT} (h:PT X c t):PTs X [c] t:=fun pins s σ H Q I hw=>wpAny_tests_one (h pins s σ H Q I hw)
end
theorem thnF {α:Type} {t:Sem α} {Q Q':α->Shared->Prop} {M:Model} {A:Around} {E:Value->Shared->Prop} {s:Shared} (h:wpAny M A t Q (fun _ _=>False) s) (hQ:∀a s,Q a s->Q' a s):wpAny M A t Q' E s:=wpAny_mono h hQ fun _ _ z=>False.elim z
theorem compLoop_any {prog:Program} {w:World} {A:Around} {R:Result->Shared->Prop} {s:Shared} {elt target iter:Expr} {ifs:List Expr} {scope:Scope} {pos:Pos} {it acc:Value} {env:Env} (I:Nat->Shared->Prop)
  (turn:∀n s,I n s->wpAny (model prog w) A (pyNext it) (fun r s₁=>match r with
   |none=>R (.ok .next) s₁
   |some v=>wpAny (model prog w) A (letOwnedTupleGo target it v) (fun _ s₁'=>wpAny (model prog w) A (assign target env v) (fun _ s₂=>
     wpAny (model prog w) A (forIn ifs true fun c r=>if r=true then do let ok <-isTrue c env (eval c env);pure (ForInStep.yield ok) else pure (ForInStep.yield r)) (fun ok s₃=>
      if ok=true then wpAny (model prog w) A (eval elt env) (fun x s₄=>
       wpAny (model prog w) A (call (.builtin "list.append") [acc,x]) (fun _ s₅=>∃m,m < n/\I m s₅) (notedBy (model prog w) A env fun e s'=>R (.error e) s') s₄) (notedBy (model prog w) A env fun e s'=>R (.error e) s') s₃
      else ∃m,m < n/\I m s₃) (notedBy (model prog w) A env fun e s'=>R (.error e) s') s₂) (notedBy (model prog w) A env fun e s'=>R (.error e) s') s₁') (notedBy (model prog w) A env fun e s'=>R (.error e) s') s₁) (notedBy (model prog w) A env fun e s'=>R (.error e) s') s)
  (n:Nat) (h:I n s):
  codeAny (model prog w) A (.compLoop (.ListComp elt [⟨target,iter,ifs,0⟩] scope pos) 0 it acc env) R s:=by
 refine codeAny_loop rfl I (fun n s hI=>?_) n h
 show wpAny _ A ((compTurn (.ListComp elt [⟨target,iter,ifs,0⟩] scope pos) 0 it acc env).onRaise (fun x=>do noteFrame x env;theTreesLotGoes x)) _ _ s
 refine wpAny_noted ?_
 rw [compTurn_list]
 refine wpAny_bind (wpAny_standAt (wpAny_bind (wpAny_mono (turn n s hI) (fun r s₁ h₁=>?_) fun _ _ h'=>h')))
 cases r with
 |none=>exact wpAny_pure h₁
 |some v=>
  refine wpAny_bind (wpAny_mono h₁ (fun _ s₁' h₁'=>?_) fun _ _ h'=>h')
  refine wpAny_bind (wpAny_mono h₁' (fun _ s₂ h₂=>wpAny_bind (wpAny_mono h₂ (fun ok s₃ h₃=>?_) fun _ _ h'=>h')) fun _ _ h'=>h')
  cases ok with
  |false=>exact wpAny_pure ⟨rfl,h₃⟩
  |true=>
   exact wpAny_bind (wpAny_bind (wpAny_mono h₃ (fun x s₄ h₄=>wpAny_bind (wpAny_mono h₄ (fun _ s₅ h₅=>wpAny_pure (wpAny_pure ⟨rfl,h₅⟩)) fun _ _ h'=>h')) fun _ _ h'=>h'))
section
variable {X:Cx}
def tLc (wi:TI) (g:TG) (tt:TT) (te:TE) (vs:List Nat):TE:=fun σ H Q=>wi σ H fun J H1=>∀D,H1 D=none->∃W:Nat->Nat->Hp->Prop,(∃m,W 0 m (upd H1 D (.lst [])))/\∀i m H,W i m H->
 (J.stop i H/\Q (.ref D) H)\/(J.go i H/\∃Nx:Hp->Prop,(∀H',Nx H'->∃m',m' < m/\W (i+1) m' H')/\∀x H',J.yld i H x H'->g x (wipe σ vs) H' fun σ2 H2=>wipe σ2 vs=wipe σ vs/\tt σ2 H2 fun b H3=>
  if b=true then te σ2 H3 fun y H4=>∃acc,H4 D=some (.lst acc)/\acc.length < sizeLine/\Nx (upd H4 D (.lst (acc++[y]))) else Nx H3)
theorem lc_core {pins:List (Addr×Obj)} {s:Shared} {σ:St} {H:Hp} {Q:VK} {elt tg iter:Expr} {ifs:List Expr} {scope:Scope} {own:List (Str×Nat)} {pos pos':Pos} {wi:TI} {g:TG} {tt:TT} {te:TE} {use:Option (Value->Sem Unit)} {Qf:Value->Shared->Prop}
  (hc:X.calm=true) (hN:X.N.Nodup) (I:Inv X pins σ H s) (hi:PI X tg iter wi) (ok:BlkOk X.N X.env.scope scope own)
  (hg:∀(s:Shared) (H:Hp) (C:Addr) (cl:List (Str×Addr)) (fp:List Addr),PG (X.blk s H scope (compEnvC scope cl C X.env) fp) tg g) (ht:∀(s:Shared) (H:Hp) (C:Addr) (cl:List (Str×Addr)) (fp:List Addr),PTs (X.blk s H scope (compEnvC scope cl C X.env) fp) ifs tt)
  (he:∀(s:Shared) (H:Hp) (C:Addr) (cl:List (Str×Addr)) (fp:List Addr),PE (X.blk s H scope (compEnvC scope cl C X.env) fp) elt te) (hs:∀x,foldedSetIterable iter X.env x=pure x)
  (h:tLc wi g tt te (own.map (·.2)) σ H Q)
  (hRR:∀D C s' m H',Inv X pins σ H' s'->Q (.ref D) H'->s'.heap.Ns C m->FpOk X pins H' C->compPost (model X.prog X.w) X.A X.xe use Qf (.ref D) C (.ok .next) s'):
  wpAny (model X.prog X.w) X.A (comprehension (.ListComp elt [⟨tg,iter,ifs,0⟩] scope pos) scope X.env pos' (newList []) false (eval iter X.env) use) Qf X.xe s:=by
 have hfree:∀y∈scope.names,y.2=.free->∃c,X.env.cells.lookup y.1=some c:=fun y hy e=>by
  rcases ok.free y hy e with k|k
  ·exact I.ok.has _ (.inl k)
  ·exact I.ok.has _ (.inr k)
 refine wpAny_comprehension_free (use:=use) rfl hs (closure_ok hfree) ok.kind (fun y hy e=>by rw [ok.uniq y hy,e])
  (thn (hi pins s σ H _ I h) fun xv s1 hx=>thn hx fun itv s2 h2=>?_)
 obtain ⟨it,fp,tn,J,H2,e,I2,T,st2,f2,q⟩:=h2
 subst e
 refine wpAny_newObj_type (newEnv_comp ?_) (by show 0<=sizeLine;decide)
 generalize hD:s2.heap.objs.size=D
 have hDn:H2 D=none:=I2.hok.fresh (Nat.le_of_eq hD)
 obtain ⟨W,⟨m0,w0⟩,turn⟩:=q D hDn
 generalize hs3:({s2 with heap:=s2.heap.push {cls:=.type "list",data:=.seq ([]:List Value).toArray}}:Shared)=s3
 have I3:Inv X pins σ (upd H2 D (.lst [])) s3:=by
  rw [<-hs3]
  refine I2.laid (t':=s2.toks) (fun b o e=>Heap.get?_push_of_some _ e) (Nat.le_of_eq hD) ⟨Nat.zero_le _,[],0,.nil,?_⟩
  rw [<-hD]
  exact Heap.get?_push_size _ rfl
 have h3:s3.heap=s2.heap.push {cls:=.type "list",data:=.seq ([]:List Value).toArray}:=by rw [<-hs3]
 have sz:∀b∈fp,b < s2.heap.objs.size:=fun b hb=>by
  obtain ⟨o,e,_⟩:=T.obj _ _ st2 b hb
  exact Heap.lt_size e
 have f3:∀b∈fp,FpOk X pins (upd H2 D (.lst [])) b/\b < s3.heap.objs.size:=fun b hb=>by
  have hlt:=sz b hb
  refine ⟨⟨?_,(f2 b hb).2⟩,by rw [h3,Heap.size_push];exact Nat.lt_succ_of_lt hlt⟩
  rw [upd_ne (by rw [<-hD];exact Nat.ne_of_lt hlt)]
  exact (f2 b hb).1
 have st3:tn 0 s3.heap:=T.keep _ _ _ st2 fun b _ o e=>by rw [h3];exact Heap.get?_push_of_some _ e
 have I4:=block_start I3 ok hN f3
 have pg:=hg s3 (upd H2 D (.lst [])) s3.heap.objs.size (cellsFrom (s3.heap.objs.size+1) scope.names (cloFrom X.env.cells scope.names [])) fp
 have pt:=ht s3 (upd H2 D (.lst [])) s3.heap.objs.size (cellsFrom (s3.heap.objs.size+1) scope.names (cloFrom X.env.cells scope.names [])) fp
 have pe:=he s3 (upd H2 D (.lst [])) s3.heap.objs.size (cellsFrom (s3.heap.objs.size+1) scope.names (cloFrom X.env.cells scope.names [])) fp
 show codeAny _ _ (.compStart (.ListComp elt [⟨tg,iter,ifs,0⟩] scope pos) 0 (.ref it) (.ref D) (compEnvC scope (cellsFrom (s3.heap.objs.size+1) scope.names (cloFrom X.env.cells scope.names [])) s3.heap.objs.size X.env)) (compPost (model X.prog X.w) X.A X.xe use Qf (.ref D) s3.heap.objs.size) {s3 with heap:=pushCells (s3.heap.push {cls:=.type "dict",data:=.dict #[]}) scope.names}
 have nfp:∀b∈fp,(upd H2 D (.lst [])) b=none:=fun b hb=>(f3 b hb).1.1
 generalize hce:compEnvC scope (cellsFrom (s3.heap.objs.size+1) scope.names (cloFrom X.env.cells scope.names [])) s3.heap.objs.size X.env=ce at I4 pg pt pe ⊢
 have cL:ce.locals=s3.heap.objs.size:=by subst hce;rfl
 generalize hH3:upd H2 D (.lst [])=H3 at I3 I4 pg pt pe w0 nfp f3
 generalize hs4:({s3 with heap:=pushCells (s3.heap.push {cls:=.type "dict",data:=.dict #[]}) scope.names}:Shared)=s4 at I4 ⊢
 have st4:tn 0 s4.heap:=T.keep _ _ _ st3 fun b _ o e=>by rw [<-hs4];exact pushCells_keeps _ _ _ _ (Heap.get?_push_of_some _ e)
 have stat:∀{σ':St} {H':Hp} {s':Shared},Inv (X.blk s3 H3 scope ce fp) [] σ' H' s'->(∀b∈fp,H' b=none)->∀b∈fp,FpOk (X.blk s3 H3 scope ce fp) [] H' b:=fun {σ' H' s'} I' hn b hb=>
  ⟨hn b hb,(I'.ok.exf b hb).1,I'.ok.exfs b hb,.inl hb,fun x c e=>(I'.ok.exf b hb).2 x c e,fun p hp=>absurd (show p∈([]:List (Addr×Obj))++[] from hp) (by simp)⟩
 have loop:codeAny (model X.prog X.w) X.A (.compLoop (.ListComp elt [⟨tg,iter,ifs,0⟩] scope pos) 0 (.ref it) (.ref D) ce) (compPost (model X.prog X.w) X.A X.xe use Qf (.ref D) s3.heap.objs.size) s4:=by
  refine compLoop_any (fun n s'=>∃i H',Inv (X.blk s3 H3 scope ce fp) [] (wipe σ (own.map (·.2))) H' s'/\tn i s'.heap/\(∀b∈fp,H' b=none)/\W i n H') ?_ m0 ⟨0,H3,I4,st4,nfp,w0⟩
  rintro n s5 ⟨i,H5,I5,st5,n5,w5⟩
  rcases turn i n H5 w5 with ⟨stop,qq⟩|⟨go,Nx,hNx,step⟩
  ·have td:=T.done (X.blk s3 H3 scope ce fp) rfl rfl rfl hc i [] s5 _ H5 (fun _ _=>False) I5 (stat I5 n5) st5 stop
   refine thnF td fun r s6 ⟨hr,I6⟩=>?_
   subst hr
   have I7:Inv X pins σ H5 s6:=I3.call' (ch:=fp) I6.os I6.base I6.hok I6.bare fun b hb=>⟨(f3 b hb).1.2.2.2.1,(f3 b hb).1.2.1,(f3 b hb).1.2.2.2.2.1,(f3 b hb).1.2.2.2.2.2⟩
   have nC:H5 s3.heap.objs.size=none:=by
    have z:H5 ce.locals=none:=I6.free
    rw [cL] at z
    exact z
   obtain ⟨m,hn,_⟩:=I6.loc
   have hn:s6.heap.Ns ce.locals m:=hn
   rw [cL] at hn
   exact hRR D s3.heap.objs.size s6 m H5 I7 qq hn (I3.fpOk (Nat.le_refl _) nC)
  ·have ti:=T.item (X.blk s3 H3 scope ce fp) rfl rfl rfl hc i [] s5 _ H5 (fun _ _=>False) I5 (stat I5 n5) st5 go
   refine thnF ti fun r s6 ⟨u,hr,h6⟩=>?_
   subst hr
   refine thnF h6 fun _ s7 ⟨x,H7,I7,r7,y7,st7,n7⟩=>?_
   have I7':=I7.pinned (stat I7 n7) (T.obj _ _ st7)
   refine thnF (pg _ s7 _ H7 x u _ I7' r7 (step x H7 y7)) fun _ s8 ⟨σ8,H8,I8,hw8,q8⟩=>?_
   refine thnF (pt _ s8 σ8 H8 _ I8 q8) fun b s9 ⟨H9,I9,q9⟩=>?_
   have fin:∀{s':Shared} {H':Hp},Inv (X.blk s3 H3 scope ce fp) ([]++pinsAt fp s7.heap) σ8 H' s'->Nx H'->∃m,m < n/\∃i H',Inv (X.blk s3 H3 scope ce fp) [] (wipe σ (own.map (·.2))) H' s'/\tn i s'.heap/\(∀b∈fp,H' b=none)/\W i m H':=fun {s' H'} I' nx=>by
    obtain ⟨m',hm,w'⟩:=hNx H' nx
    have pin':∀b∈fp,∀o,s7.heap.get? b=some o->s'.heap.get? b=some o/\H' b=none:=fun b hb o e=>
     let z:=I'.pin (b,o) (List.mem_append_right _ (List.mem_append_right _ (mem_pinsAt hb e)))
     ⟨z.1,z.2.1⟩
    have hl:(wipe σ (own.map (·.2))).length=σ8.length:=by rw [<-hw8,wipe_length]
    refine ⟨m',hm,i+1,H',(I'.unpinned (pins:=[])).weak hl (fun j v e=>?_),T.keep _ _ _ st7 fun b hb o e=>(pin' b hb o e).1,fun b hb=>?_,w'⟩
    ·rw [<-hw8] at e
     exact (wipe_some e).1
    ·obtain ⟨o,e,_⟩:=T.obj _ _ st7 b hb
     exact (pin' b hb o e).2
   cases b with
   |false=>
    simp only [Bool.false_eq_true,if_false] at q9 ⊢
    exact fin I9 q9
   |true=>
    simp only [if_true] at q9 ⊢
    refine thnF (pe _ s9 σ8 H9 _ I9 q9) fun z s10 ⟨yv,H10,I10,r10,acc,hD10,hz10,nx⟩=>?_
    exact app_ok (X:=X.blk s3 H3 scope ce fp) I10 hD10 hz10 r10 fun s11 I11=>fin I11 nx
 exact codeAny_compStart_list loop (T.self X.A 0 _ _ _ st4 loop)
theorem pe_lc {elt tg iter:Expr} {ifs:List Expr} {scope:Scope} {own:List (Str×Nat)} {pos:Pos} {wi:TI} {g:TG} {tt:TT} {te:TE} (hc:X.calm=true) (hN:X.N.Nodup) (hi:PI X tg iter wi) (ok:BlkOk X.N X.env.scope scope own)
  (hg:∀(s:Shared) (H:Hp) (C:Addr) (cl:List (Str×Addr)) (fp:List Addr),PG (X.blk s H scope (compEnvC scope cl C X.env) fp) tg g) (ht:∀(s:Shared) (H:Hp) (C:Addr) (cl:List (Str×Addr)) (fp:List Addr),PTs (X.blk s H scope (compEnvC scope cl C X.env) fp) ifs tt)
  (he:∀(s:Shared) (H:Hp) (C:Addr) (cl:List (Str×Addr)) (fp:List Addr),PE (X.blk s H scope (compEnvC scope cl C X.env) fp) elt te) (hs:∀x,foldedSetIterable iter X.env x=pure x:=by intro _;rfl):
  PE X (.ListComp elt [⟨tg,iter,ifs,0⟩] scope pos) (tLc wi g tt te (own.map (·.2))):=by
 intro pins s σ H Q I h
 rw [eval_ListComp]
 refine lc_core hc hN I hi ok hg ht he hs h fun D C s' m H' I' q hn f=>⟨m,hn,fun h'' sb=>?_⟩
 obtain ⟨f0,f1,f2,f3,f4,f5⟩:=f
 exact ⟨.ref D,H',I'.turned (t':=s'.toks) (fun b o hb e=>(sb.2 b hb).trans e) f0 f1 f3 f4 f5,rfl,q⟩
theorem ps_setLc {i:Nat} {y:Str} {py:Pos} {elt tg iter:Expr} {ifs:List Expr} {scope:Scope} {own:List (Str×Nat)} {pos spos:Pos} {wi:TI} {g:TG} {tt:TT} {te:TE} (hc:X.calm=true) (hN:X.N.Nodup) (hy:X.N[i]?=some y) (hyl:X.env.scope.names.lookup y=some .local)
  (hsw:swapsWith (.ListComp elt [⟨tg,iter,ifs,0⟩] scope pos) (some (.Name y py)) spos.line X.env=pure true) (hi:PI X tg iter wi) (ok:BlkOk X.N X.env.scope scope own)
  (hg:∀(s:Shared) (H:Hp) (C:Addr) (cl:List (Str×Addr)) (fp:List Addr),PG (X.blk s H scope (compEnvC scope cl C X.env) fp) tg g) (ht:∀(s:Shared) (H:Hp) (C:Addr) (cl:List (Str×Addr)) (fp:List Addr),PTs (X.blk s H scope (compEnvC scope cl C X.env) fp) ifs tt)
  (he:∀(s:Shared) (H:Hp) (C:Addr) (cl:List (Str×Addr)) (fp:List Addr),PE (X.blk s H scope (compEnvC scope cl C X.env) fp) elt te) (hs:∀x,foldedSetIterable iter X.env x=pure x:=by intro _;rfl):
  PS X (.Assign [.Name y py] (.ListComp elt [⟨tg,iter,ifs,0⟩] scope pos) spos) (tAsg (tLc wi g tt te (own.map (·.2))) (gName i)):=by
 intro pins s σ H D I h
 rw [exec_Assign_Name_used _ _ _ _ hsw]
 refine wpAny_bind (wpAny_standAt (wpAny_bind ?_))
 show wpAny _ X.A (do let _ <-comprehension (.ListComp elt [⟨tg,iter,ifs,0⟩] scope pos) scope X.env (firstIterPos [⟨tg,iter,ifs,0⟩] pos) (newList []) false (eval iter X.env) (some (assign (.Name y py) X.env))) _ _ s
 have h:tLc wi g tt te (own.map (·.2)) σ H (fun x H1=>gName i x σ H1 D.nx):=h
 refine wpAny_bind (thn (lc_core (Qf:=fun _ s'=>SP X pins D .next s') hc hN I hi ok hg ht he hs h fun L C s' m H' I' q hn f=>?_) fun _ s' hq=>wpAny_pure (wpAny_pure hq))
 show wpAny _ _ (assign (.Name y py) X.env (.ref L)) _ _ _
 refine wpAny_assign_Name (store_ok2 (v:=V.ref L) I' hN hy (.inl hyl) rfl (fun s2 I2 ⟨a,sb,ha⟩=>?_) (.inr hyl))
 obtain ⟨f0,f1,f2,f3,f4,f5⟩:=f
 have haC:C≠a:=by
  rcases ha with z|z
  ·rw [z];exact f1
  ·exact fun e=>f4 y a z e.symm
 refine ⟨m,hn.sameBut sb haC,fun h3 sb3=>?_⟩
 exact ⟨_,H',I2.turned (t':=s2.toks) (fun b o hb e=>(sb3.2 b hb).trans e) f0 f1 f3 f4 f5,q⟩
theorem sw_true {elt:Expr} {gs:List Comprehension} {scope:Scope} {pos py:Pos} {y:Str} {l:Nat} {env:Env} (hk:env.scope.kind=.function) (hy:env.scope.names.lookup y=some .local) (hl:(py.line == pos.line)=true)
  (ha:(scope.names.any fun (n,k)=>n == y&&(k == .local||k == .cell))=false):swapsWith (.ListComp elt gs scope pos) (some (.Name y py)) l env=pure true:=by
 have ky:env.kindOf y=some .local:=hy
 have hb:env.blockKind=.function:=by unfold Env.blockKind;rw [hk];rfl
 unfold swapsWith
 simp only [hb,ky,ha,Expr.pos,hl]
 rfl
end
theorem lc_range {lo:Int} {n:Nat} {g:TG} {tt:TT} {te:TE} {vs:List Nat} {σ:St} {H1:Hp} {D:Addr} {Qd:Hp->Prop} (Pv:Nat->Hp->Prop) (h0:Pv 0 (upd H1 D (.lst [])))
  (hs:∀i H,i < n->Pv i H->g (.int (lo+i)) (wipe σ vs) H fun σ2 H2=>wipe σ2 vs=wipe σ vs/\tt σ2 H2 fun b H3=>
   if b=true then te σ2 H3 fun y H4=>∃acc,H4 D=some (.lst acc)/\acc.length < sizeLine/\Pv (i+1) (upd H4 D (.lst (acc++[y]))) else Pv (i+1) H3) (hd:∀H,Pv n H->Qd H):
  ∃W:Nat->Nat->Hp->Prop,(∃m,W 0 m (upd H1 D (.lst [])))/\∀i m H,W i m H->
   ((Itr lo n).stop i H/\Qd H)\/((Itr lo n).go i H/\∃Nx:Hp->Prop,(∀H',Nx H'->∃m',m' < m/\W (i+1) m' H')/\∀x H',(Itr lo n).yld i H x H'->g x (wipe σ vs) H' fun σ2 H2=>wipe σ2 vs=wipe σ vs/\tt σ2 H2 fun b H3=>
    if b=true then te σ2 H3 fun y H4=>∃acc,H4 D=some (.lst acc)/\acc.length < sizeLine/\Nx (upd H4 D (.lst (acc++[y]))) else Nx H3):=by
 refine ⟨fun i m H=>m=n - i/\i<=n/\Pv i H,⟨n,by simp,Nat.zero_le _,h0⟩,?_⟩
 rintro i m H ⟨rfl,hi,p⟩
 by_cases hlt:i < n
 ·refine .inr ⟨hlt,Pv (i+1),fun H' p'=>⟨n - (i+1),by omega,rfl,hlt,p'⟩,fun x H' y=>?_⟩
  obtain ⟨e,y⟩:=y
  subst e y
  exact hs i _ hlt p
 ·have e:i=n:=by omega
  subst e
  exact .inl ⟨Nat.le_refl _,hd H p⟩
theorem lc_list {K:W.Frag} {a:Addr} {xs:List V} {g:TG} {tt:TT} {te:TE} {vs:List Nat} {σ:St} {H1:Hp} {D:Addr} {Qd:Hp->Prop} (Pv:Nat->Hp->Prop) (h0:Pv 0 (upd H1 D (.lst []))) (hl:∀i H,i<=xs.length->Pv i H->SqL K H a xs)
  (hs:∀i x H,xs[i]?=some x->Pv i H->g x (wipe σ vs) H fun σ2 H2=>wipe σ2 vs=wipe σ vs/\tt σ2 H2 fun b H3=>
   if b=true then te σ2 H3 fun y H4=>∃acc,H4 D=some (.lst acc)/\acc.length < sizeLine/\Pv (i+1) (upd H4 D (.lst (acc++[y]))) else Pv (i+1) H3) (hd:∀H,Pv xs.length H->Qd H):
  ∃W:Nat->Nat->Hp->Prop,(∃m,W 0 m (upd H1 D (.lst [])))/\∀i m H,W i m H->
   ((Itl K a).stop i H/\Qd H)\/((Itl K a).go i H/\∃Nx:Hp->Prop,(∀H',Nx H'->∃m',m' < m/\W (i+1) m' H')/\∀x H',(Itl K a).yld i H x H'->g x (wipe σ vs) H' fun σ2 H2=>wipe σ2 vs=wipe σ vs/\tt σ2 H2 fun b H3=>
    if b=true then te σ2 H3 fun y H4=>∃acc,H4 D=some (.lst acc)/\acc.length < sizeLine/\Nx (upd H4 D (.lst (acc++[y]))) else Nx H3):=by
 refine ⟨fun i m H=>m=xs.length - i/\i<=xs.length/\Pv i H,⟨xs.length,by simp,Nat.zero_le _,h0⟩,?_⟩
 rintro i m H ⟨rfl,hi,p⟩
 have q:=hl i H hi p
 by_cases hlt:i < xs.length
 ·refine .inr ⟨⟨xs,xs[i],q,by simp [hlt]⟩,Pv (i+1),fun H' p'=>⟨xs.length - (i+1),by omega,rfl,hlt,p'⟩,fun x H' y=>?_⟩
  obtain ⟨e,y⟩:=y
  subst e
  exact hs i x _ (y xs q) p
 ·have e:i=xs.length:=by omega
  subst e
  exact .inl ⟨⟨xs,q,Nat.le_refl _⟩,hd H p⟩
theorem lc_tup {K:W.Frag} {a:Addr} {xs:List V} {g:TG} {tt:TT} {te:TE} {vs:List Nat} {σ:St} {H1:Hp} {D:Addr} {Qd:Hp->Prop} (Pv:Nat->Hp->Prop) (h0:Pv 0 (upd H1 D (.lst []))) (hl:∀i H,i<=xs.length->Pv i H->SqT K H a xs)
  (hs:∀i x H,xs[i]?=some x->Pv i H->g x (wipe σ vs) H fun σ2 H2=>wipe σ2 vs=wipe σ vs/\tt σ2 H2 fun b H3=>
   if b=true then te σ2 H3 fun y H4=>∃acc,H4 D=some (.lst acc)/\acc.length < sizeLine/\Pv (i+1) (upd H4 D (.lst (acc++[y]))) else Pv (i+1) H3) (hd:∀H,Pv xs.length H->Qd H):
  ∃W:Nat->Nat->Hp->Prop,(∃m,W 0 m (upd H1 D (.lst [])))/\∀i m H,W i m H->
   ((Itt K a).stop i H/\Qd H)\/((Itt K a).go i H/\∃Nx:Hp->Prop,(∀H',Nx H'->∃m',m' < m/\W (i+1) m' H')/\∀x H',(Itt K a).yld i H x H'->g x (wipe σ vs) H' fun σ2 H2=>wipe σ2 vs=wipe σ vs/\tt σ2 H2 fun b H3=>
    if b=true then te σ2 H3 fun y H4=>∃acc,H4 D=some (.lst acc)/\acc.length < sizeLine/\Nx (upd H4 D (.lst (acc++[y]))) else Nx H3):=by
 refine ⟨fun i m H=>m=xs.length - i/\i<=xs.length/\Pv i H,⟨xs.length,by simp,Nat.zero_le _,h0⟩,?_⟩
 rintro i m H ⟨rfl,hi,p⟩
 have q:=hl i H hi p
 by_cases hlt:i < xs.length
 ·refine .inr ⟨⟨xs,xs[i],q,by simp [hlt]⟩,Pv (i+1),fun H' p'=>⟨xs.length - (i+1),by omega,rfl,hlt,p'⟩,fun x H' y=>?_⟩
  obtain ⟨e,y⟩:=y
  subst e
  exact hs i x _ (y xs q) p
 ·have e:i=xs.length:=by omega
  subst e
  exact .inl ⟨⟨xs,q,Nat.le_refl _⟩,hd H p⟩
def blkC (N:List Str) (sc scope:Scope) (own:List (Str×Nat)):Bool:=
 (match scope.kind with|.function=>true|_=>false)&&(scope.names.all fun y=>decide (scope.names.lookup y.1=some y.2))&&(own.all fun p=>decide (N[p.2]?=some p.1))&&
  (scope.names.all fun y=>match y.2 with
   |.free=>(match sc.names.lookup y.1 with|some .cell=>true|some .free=>true|_=>false)
   |.local=>decide (y.1∈own.map (·.1))||decide (y.1∉N)
   |.cell=>decide (y.1∈own.map (·.1))||decide (y.1∉N)
   |_=>true)
theorem blkOk_by {N:List Str} {sc scope:Scope} {own:List (Str×Nat)} (h:blkC N sc scope own=true):BlkOk N sc scope own:=by
 unfold blkC at h
 simp only [Bool.and_eq_true,List.all_eq_true,decide_eq_true_eq] at h
 obtain ⟨⟨⟨h1,h2⟩,h3⟩,h4⟩:=h
 refine ⟨?_,h2,h3,fun y hy e=>?_,fun y hy e=>?_⟩
 ·split at h1
  ·assumption
  ·cases h1
 ·have q:=h4 y hy
  simp only [e] at q
  split at q <;> first|exact .inl (by assumption)|exact .inr (by assumption)|cases q
 ·have q:=h4 y hy
  rcases e with e|e <;> (simp only [e,Bool.or_eq_true,decide_eq_true_eq] at q;exact q)
section
variable {prog:Program} {w:World} {A:Around} {R:Result->Shared->Prop} {s:Shared} {elt t0 i0 t1 i1:Expr} {ifs0 ifs1:List Expr} {scope:Scope} {pos:Pos} {it acc:Value} {env:Env}
end
section
variable {X:Cx}
end
section
variable {κ:Type} [DecidableEq κ]
def valV (kvs:List (κ×V)) (k:κ):Option V:=(kvs.find? fun kv=>decide (kv.1=k)).map (·.2)
theorem valV_pos {p:κ×V} {r:List (κ×V)} {k:κ} (e:p.1=k):valV (p::r) k=some p.2:=by simp [valV,List.find?_cons,e]
theorem valV_neg {p:κ×V} {r:List (κ×V)} {k:κ} (e:¬p.1=k):valV (p::r) k=valV r k:=by simp [valV,List.find?_cons,e]
theorem RelO.isSome_eq {o:Option V} {u:Option Value} (r:RelO o u):o.isSome=u.isSome:=by
 cases o with
 |none=>cases u with
  |none=>rfl
  |some _=>exact (show False from r).elim
 |some _=>cases u with
  |none=>exact (show False from r).elim
  |some _=>rfl
theorem KV.val {kvs:List (κ×V)} {vs:List (κ×Value)} (r:KV kvs vs) (k:κ):RelO (valV kvs k) (valueAt vs k):=by
 unfold KV at r
 induction r with
 |nil=>exact True.intro
 |@cons p q ps qs h t ih=>
  obtain ⟨h1,h2⟩:=h
  by_cases e:p.1=k
  ·have e':q.1=k:=h1.symm.trans e
   have b:valueAt (q::qs) k=some q.2:=by simp [valueAt,List.find?_cons,e']
   rw [valV_pos e,b];exact h2
  ·have e':¬q.1=k:=fun z=>e (h1.trans z)
   have b:valueAt (q::qs) k=valueAt qs k:=by simp [valueAt,List.find?_cons,e']
   rw [valV_neg e,b];exact ih
theorem KV.keys {kvs:List (κ×V)} {vs:List (κ×Value)} (r:KV kvs vs):kvs.map (·.1)=vs.map (·.1):=by
 unfold KV at r
 induction r with
 |nil=>rfl
 |cons h t ih=>rw [List.map_cons,List.map_cons,ih,h.1]
end
section
variable {P:Program} {w:World} {H:Hp} {h:Heap} {a:Addr}
end
section
variable {X:Cx} {pins:List (Addr×Obj)} {σ:St} {H:Hp} {s:Shared} {a:Addr} {y v:V} {u r:Value} {o:Option V} {A:Around} {E:Value->Shared->Prop}
end
section
variable {X:Cx} {pins:List (Addr×Obj)} {σ:St} {H:Hp} {s:Shared} {a:Addr} {kvs:List (Key×V)} {k:Key} {u:Value} {A:Around} {E:Value->Shared->Prop}
end
def NoSl (i:Expr):Prop:=∀ov iv,subscripted i false ov iv=operate [ov,iv] (getItem ov iv)
theorem subD_of {prog:Program} {w:World} {A:Around} {E:Value->Shared->Prop} {s:Shared} {env:Env} {value slice:Expr} {pos:Pos} {T id:String} {Q:Value->Shared->Prop}
  (hl:typeLookup (.type T) "__getitem__"=pure (some (.builtin id))) (hs:NoSl slice)
  (h:wpAny (model prog w) A (eval value env) (fun o s₁=>wpAny (model prog w) A (eval slice env) (fun i s₂=>s₂.TypeIs o T/\wpAny (model prog w) A (getItem o i) Q E s₂) E s₁) E s):
  wpAny (model prog w) A (eval (.Subscript value slice pos) env) Q E s:=by
 refine Subscript_ (wpAny_mono h (fun o s₁ h₁=>wpAny_mono h₁ (fun i s₂ h₂=>?_) fun _ _ x=>x) fun _ _ x=>x)
 obtain ⟨hT,h₂⟩:=h₂
 unfold subscriptTail
 refine wpAny_bind ?_
 rw [getitemInPython_of_ne hT.not_modules]
 refine wpAny_bind (wpAny_specialOf hT hl ?_)
 have fin:wpAny (model prog w) A (subscripted slice false o i) (fun r s₃=>wpAny (model prog w) A (letTemporaryGo value o r >>= fun _=>pure r) Q E s₃) E s₂:=by
  rw [hs o i]
  exact wpAny_operating (wpAny_mono h₂ (fun r s₃ h₃=>wpAny_bind (wpAny_letTemporaryGo (wpAny_pure h₃))) fun _ _ x=>x)
 first
  |exact wpAny_pure (wpAny_bind fin)
  |exact wpAny_bind (wpAny_pure (wpAny_bind fin))
  |exact wpAny_bind fin
section
variable {X:Cx} {o i e value:Expr} {pos pos' tpos:Pos} {td ty tv:TE}
end
section
variable {X:Cx} {pos:Pos}
end
section
variable {X:Cx} {pins:List (Addr×Obj)} {σ:St} {H:Hp} {s:Shared} {a:Addr} {y d:V} {u r:Value} {o:Option V} {A:Around} {E:Value->Shared->Prop}
end
section
variable {X:Cx} {o e f:Expr} {apos cpos:Pos} {td ty tx:TE}
end
section
variable {X:Cx} {pins:List (Addr×Obj)} {σ:St} {H:Hp} {s:Shared} {a:Addr} {kvs:List (Key×V)} {A:Around} {E:Value->Shared->Prop}
end
section
variable {X:Cx} {pins:List (Addr×Obj)} {σ:St} {H:Hp} {s:Shared} {a:Addr} {y:V} {u:Value} {A:Around} {E:Value->Shared->Prop}
end
section
variable {prog:Program} {w:World} {A:Around} {E:Value->Shared->Prop}
end
section
variable {X:Cx}
end
theorem boot_reversed5:bootBuiltins "reversed"=some (.type "reversed"):=by decide+kernel
section
variable {X:Cx} {pins:List (Addr×Obj)} {σ:St} {H:Hp} {s:Shared} {h':Heap}
theorem Inv.turnedL {t':Nat} {ch:List Addr} (I:Inv X pins σ H s) (k:∀b o,b∉ch->s.heap.get? b=some o->h'.get? b=some o) (hf:∀b∈ch,FpOk X pins H b):Inv X pins σ H {s with heap:=h',toks:=t'}:=by
 have nit:∀b u,H b=some u->b∉ch:=fun b u e z=>by
  have q:=(hf b z).1
  rw [q] at e;cases e
 refine I.step (g':=s.gens) (d':=s.drawn) (ch:=ch) (fun b hb=>⟨(hf b hb).2.2.2.1,(hf b hb).2.1,(hf b hb).2.2.2.2.1,(hf b hb).2.2.2.2.2⟩) (fun b o _ _ hc e _=>k b o hc e) (fun b o _ _ hc e _=>⟨o.slots,k b o hc e⟩)
  (fun _ _ _ _ n=>n) (fun b o hc e=>⟨o,k b o hc e⟩) (fun _ _ e=>e) (fun _ _ _ e=>e) (fun b ps e=>⟨#[],by rw [e];simp⟩) (fun m hm=>?_) (fun b u e=>?_) I.bare
 ·obtain ⟨o,es,ep,ho,r⟩:=hm
  exact ⟨o,es,ep,k _ o (fun z=>(hf _ z).2.1 rfl) ho,r⟩
 ·refine (I.hok b u e).stay (fun c v hc q=>k c v ?_ q) (fun _ q=>q) fun _ _ q=>q
  rcases hc with z|z
  ·rw [z];exact nit b u e
  ·exact nit c _ z
theorem Inv.turnedNew {t':Nat} {ch:List Addr} {T:Addr} {ob:HO} (I:Inv X pins σ H s) (k:∀b o,b∉ch->s.heap.get? b=some o->h'.get? b=some o) (hf:∀b∈ch,FpOk X pins H b) (hT:s.heap.objs.size<=T)
  (new:ObjOk X.prog X.w (upd H T ob) h' T ob):Inv X pins σ (upd H T ob) {s with heap:=h',toks:=t'}:=by
 have hn:H T=none:=I.hok.fresh hT
 have nit:∀b u,H b=some u->b∉ch:=fun b u e z=>by
  have q:=(hf b z).1
  rw [q] at e;cases e
 refine I.step (g':=s.gens) (d':=s.drawn) (ch:=ch) (fun b hb=>⟨(hf b hb).2.2.2.1,(hf b hb).2.1,(hf b hb).2.2.2.2.1,(hf b hb).2.2.2.2.2⟩) (fun b o _ _ hc e _=>k b o hc e) (fun b o _ _ hc e _=>⟨o.slots,k b o hc e⟩)
  (fun b o _ e n=>?_) (fun b o hc e=>⟨o,k b o hc e⟩) (fun b xs e=>?_) (fun b o u e=>?_) (fun b ps e=>⟨#[],?_⟩) (fun m hm=>?_) (fun b u e=>?_) I.bare
 ·rw [upd_ne (Nat.ne_of_lt (Nat.lt_of_lt_of_le (Heap.lt_size e) hT))];exact n
 ·rw [upd_ne (ne_of_none e hn)];exact e
 ·rw [upd_ne (ne_of_none e hn)];exact e
 ·rw [upd_ne (ne_of_none e hn),e];simp
 ·obtain ⟨o,es,ep,ho,r⟩:=hm
  exact ⟨o,es,ep,k _ o (fun z=>(hf _ z).2.1 rfl) ho,r⟩
 ·by_cases hb:b=T
  ·subst hb
   rw [upd_same] at e
   cases e
   exact new
  ·rw [upd_ne hb] at e
   refine (I.hok b u e).stay (fun c v hc q=>k c v ?_ q) (fun c q=>by rw [upd_ne (ne_of_none q hn)];exact q) fun c xs q=>by rw [upd_ne (ne_of_none q hn)];exact q
   rcases hc with z|z
   ·rw [z];exact nit b u e
   ·exact nit c _ z
theorem Inv.lock {d:Addr} {u:HO} (I:Inv X pins σ H s) (h:H d=some u) (mu:Mut (some u)):∃od,Inv X pins σ (upd H d (.frz od u)) s:=by
 have x:=I.hok d u h
 have ex:∃od,s.heap.get? d=some od:=by
  cases u with
  |lst xs=>obtain ⟨_,_,_,_,e⟩:=x;exact ⟨_,e⟩
  |dK kvs=>obtain ⟨_,_,_,_,o,_,_,e,_⟩:=x;exact ⟨o,e⟩
  |dT kvs=>obtain ⟨_,_,_,_,o,_,_,e,_⟩:=x;exact ⟨o,e⟩
  |set S n=>obtain ⟨o,_,_,_,e,_⟩:=x;exact ⟨o,e⟩
  |ins C dx fs=>obtain ⟨_,_,_,e,_⟩:=x;exact ⟨_,e⟩
  |ext φ=>obtain ⟨_,⟨_,e⟩,_⟩:=x;exact ⟨_,e⟩
  |_=>exact False.elim mu
 obtain ⟨od,e⟩:=ex
 have new:ObjOk X.prog X.w (upd H d (.frz od u)) s.heap d (.frz od u):=by
  refine ⟨e,x.stay (fun b v _ q=>q) (fun b q=>?_) fun b xs q=>?_⟩
  ·rw [upd_ne (fun z=>by rw [z,h] at q;cases q;exact mu)];exact q
  ·rw [upd_ne (fun z=>by rw [z,h] at q;cases q;exact mu)];exact q
 exact ⟨od,I.write (x:=d) (e:=d) (t':=s.toks) (h':=s.heap) (by rw [h];exact mu) (.inl rfl) (fun b v _ q=>q) ⟨od,e⟩ new⟩
end
section
variable {X:Cx}
theorem pi_one {tg:Expr} {pins:List (Addr×Obj)} {σ:St} {H:Hp} {s:Shared} {R:It->Hp->Prop} {J:It} {tn:Nat->Heap->Prop} {tk:Nat} (I:Inv X pins σ H s) (o:Obj)
  (T:Turn X.prog X.w X.K tg J [s.heap.objs.size] s.heap.objs.size tn) (st:tn 0 (s.heap.push o)) (q:R J H):PIE X pins σ tg R (.ref s.heap.objs.size) {s with heap:=s.heap.push o,toks:=tk}:=by
 refine ⟨s.heap.objs.size,[s.heap.objs.size],tn,J,H,rfl,I.kept fun b ob e=>Heap.get?_push_of_some _ e,T,st,fun b hb=>?_,q⟩
 have e:b=s.heap.objs.size:=by simpa using hb
 subst e
 exact I.fpOk (Nat.le_refl _) (I.hok.fresh (Nat.le_refl _))
end
def Itc (lo c:Int) (n:Nat):It:=⟨fun i _=>i < n,fun i H x H'=>H'=H/\x=.int (lo+(i:Nat)*c),fun i _=>n<=i⟩
theorem turn_rangeC {P:Program} {w:World} {K:W.Frag} {tg:Expr} (it:Addr) (lo c:Int) (n:Nat):Turn P w K tg (Itc lo c n) [it] it (fun i h=>IsRangeIter h it (lo+(i:Nat)*c) ((n:Int) - (i:Nat)) c) where
 mem:=by simp
 obj:=fun i h st b hb=>by
  have e:b=it:=by simpa using hb
  subst e
  exact ⟨_,st,fun v z=>nomatch z⟩
 keep:=fun i h h' st k=>k it (by simp) _ st
 item:=by
  intro X hP hw hK hc i pins s σ H E I hf st hg
  subst hP hw hK
  obtain ⟨f0,f1,f2,f3,f4,f5⟩:=hf it (by simp)
  have W:=Walks.range (prog:=X.prog) (w:=X.w) (I.ok.hd hc) it lo c n
  refine W.item i s _ _ hg st fun v h' tk hv st' kk=>?_
  obtain ⟨t,rfl⟩:=hv
  have I1:Inv X pins σ H {s with heap:=h',toks:=tk}:=I.turned (fun b o hb e=>kk b o (by simpa using hb) e) f0 f1 f3 f4 f5
  exact ⟨_,rfl,go_of (s:={s with heap:=h',toks:=tk}) (n:="range_iterator") st' rfl rfl (by decide) ⟨.int (lo+(i:Nat)*c),H,I1,⟨t,rfl⟩,⟨rfl,rfl⟩,st',fun b hb=>(hf b hb).1⟩⟩
 done:=by
  intro X hP hw hK hc i pins s σ H E I hf st hg
  subst hP hw hK
  obtain ⟨f0,f1,f2,f3,f4,f5⟩:=hf it (by simp)
  exact wpAny_pyNext_range_end (I.ok.hd hc) st (by have:n<=i:=hg;omega) fun h' eb=>⟨rfl,I.turned (t':=s.toks) (fun b o hb e=>eb b o hb e) f0 f1 f3 f4 f5⟩
 self:=fun A i s Q E st h=>wpAny_pyIter_rangeiter st h
def RgC (i j c:Int) (n:Nat):Prop:=c≠0/\c.natAbs < 1073741824/\Builtin.Range.small i j c=true/\Builtin.Range.rangeSize i j c=n
def iRng3 (ta:TA):TI:=fun σ H R=>ta σ H fun vs H1=>∃(i j c:Int) (n:Nat),vs=[.int i,.int j,.int c]/\RgC i j c n/\R (Itc i c n) H1
section
variable {X:Cx} {tg:Expr}
theorem pi_range3 {a b c:Expr} {ta:TA} {p pos:Pos} (hg:Gl X "range") (hm:X.mg "range"=none) (ha:PA X [a,b,c] ta)
  (hs:starEach [a,b,c] X.env=(false,eval a X.env)::starEach [b,c] X.env:=by rfl) (hpl:(backTo pos (starEach [b,c] X.env)).any (·.1)=false:=by rfl):
  PI X tg (.Call (.Name "range" p) [a,b,c] [] pos) (iRng3 ta):=by
 intro pins s σ H R I h
 refine Call_ (ld_blt I hg hm boot_range (PyProof.Rows.callWith_type1 (thn (ha pos pins s σ H _ I h) fun us s1 ⟨vs,H1,I1,r1,q1⟩=>?_) hs hpl))
 obtain ⟨i,j,k,n,e,⟨c0,c1,c2,c3⟩,q⟩:=q1
 subst e
 cases r1 with
 |cons r rr=>
  cases rr with
  |cons r' rr=>
   cases rr with
   |cons r'' rr=>
    cases rr
    obtain ⟨t,rfl⟩:=r
    obtain ⟨t',rfl⟩:=r'
    obtain ⟨t'',rfl⟩:=r''
    refine call_range_3 c0 ?_ (.inl (PyProof.noPylong_small c1))
    refine wpAny_pyIter_range (IsRange.new ..) c2 ?_
    have I2:Inv X pins σ H1 {s1 with heap:=s1.heap.push {cls:=.type "range",data:=.fields #[.int i t,.int j t',.int k t'']}}:=I1.kept (t':=s1.toks) fun b o e=>Heap.get?_push_of_some _ e
    refine pi_one (tk:=s1.toks) I2 _ (turn_rangeC _ i k n) ?_ q
    have e1:i+((0:Nat):Int)*k=i:=by simp
    have e2:(n:Int) - ((0:Nat):Int)=Builtin.Range.rangeSize i j k:=by rw [c3];simp
    show IsRangeIter _ _ (i+((0:Nat):Int)*k) ((n:Int) - ((0:Nat):Int)) k
    rw [e1,e2]
    exact Heap.get?_push_size _ rfl
end
def Itv (K:W.Frag) (a:Addr) (n:Nat):It:=
 ⟨fun i H=>i < n/\∃(xs:List V) (x:V),SqL K H a xs/\xs[n - 1 - i]?=some x,fun i H x H'=>H'=H/\∀xs,SqL K H a xs->xs[n - 1 - i]?=some x,fun i _=>n<=i⟩
theorem turn_rev {P:Program} {w:World} {K:W.Frag} {tg:Expr} (a it:Addr) (n:Nat):Turn P w K tg (Itv K a n) [it] it (fun i h=>i<=n/\h.IsRevIter it a ((n:Int) - 1 - (i:Nat))) where
 mem:=by simp
 obj:=fun i h st b hb=>by
  have e:b=it:=by simpa using hb
  subst e
  obtain ⟨_,o,e,c,d⟩:=st
  exact ⟨o,e,fun v z=>by rw [d] at z;cases z⟩
 keep:=fun i h h' st k=>⟨st.1,st.2.at fun o e=>k it (by simp) o e⟩
 item:=by
  intro X hP hw hK hc i pins s σ H E I hf st hg
  subst hP hw hK
  obtain ⟨hin,xs,x,hq,hx⟩:=hg
  obtain ⟨its,rv,p,hz⟩:=I.list hq
  obtain ⟨u,hu,ru⟩:=rv.get hx
  obtain ⟨f0,f1,f2,f3,f4,f5⟩:=hf it (by simp)
  obtain ⟨_,hit⟩:=st
  have e1:(n:Int) - 1 - ((i:Nat):Int)=((n - 1 - i:Nat):Int):=by omega
  rw [e1] at hit
  refine wpAny_pyNext_rev_item hit p.isList (x:=u) (by simpa using hu) fun h' st' sb=>?_
  have e2:((n - 1 - i:Nat):Int) - 1=(n:Int) - 1 - ((i+1:Nat):Int):=by omega
  rw [e2] at st'
  have I1:Inv X pins σ H {s with heap:=h'}:=I.turned (t':=s.toks) (fun b o hb e=>(sb.2 b hb).trans e) f0 f1 f3 f4 f5
  obtain ⟨o,e,c,d⟩:=id st'
  exact ⟨u,rfl,go_of (s:={s with heap:=h'}) e c d (by decide) ⟨x,H,I1,ru,⟨rfl,fun ys hy=>by rw [I.list_inj hy hq];exact hx⟩,⟨hin,st'⟩,fun b hb=>(hf b hb).1⟩⟩
 done:=by
  intro X hP hw hK hc i pins s σ H E I hf st hg
  subst hP hw hK
  obtain ⟨f0,f1,f2,f3,f4,f5⟩:=hf it (by simp)
  obtain ⟨hin,hit⟩:=st
  have hge:n<=i:=hg
  have e1:(n:Int) - 1 - ((i:Nat):Int)=-1:=by omega
  rw [e1] at hit
  exact wpAny_pyNext_rev_end (I.ok.hd hc) hit fun h' eb=>⟨rfl,I.turned (t':=s.toks) (fun b o hb e=>eb b o hb e) f0 f1 f3 f4 f5⟩
 self:=fun A i s Q E st h=>wpAny_pyIter_revIter st.2 h
def iRev (K:W.Frag) (ta:TA):TI:=fun σ H R=>ta σ H fun vs H1=>∃(a:Addr) (xs:List V),vs=[.ref a]/\SqL K H1 a xs/\R (Itv K a xs.length) H1
section
variable {X:Cx} {tg:Expr}
theorem pi_reversed {e:Expr} {ta:TA} {p pos:Pos} (hg:Gl X "reversed") (hm:X.mg "reversed"=none) (ha:PA X [e] ta) (hs:starEach [e] X.env=[(false,eval e X.env)]:=by rfl):PI X tg (.Call (.Name "reversed" p) [e] [] pos) (iRev X.K ta):=by
 intro pins s σ H R I h
 refine Call_ (ld_blt I hg hm boot_reversed5 (PyProof.Rows.callWith_type1 (thn (ha pos pins s σ H _ I h) fun us s1 ⟨vs,H1,I1,r1,q1⟩=>?_) hs rfl))
 obtain ⟨a,xs,e,hq,q⟩:=q1
 subst e
 cases r1 with
 |cons r rr=>
  cases rr
  cases r
  obtain ⟨its,rv,p',hz⟩:=I1.list hq
  have hl:=rv.length
  have e1:((its.toArray.size:Nat):Int) - 1=(xs.length:Int) - 1 - ((0:Nat):Int):=by simp only [List.size_toArray];omega
  refine call_reversed_list p'.isList (wpAny_pyIter_revIter (l:=a) (i:=((its.toArray.size:Nat):Int) - 1) ⟨_,Heap.get?_push_size _ rfl,rfl,rfl⟩ ?_)
  refine pi_one (tk:=s1.toks) I1 _ (turn_rev a _ xs.length) ⟨Nat.zero_le _,?_⟩ q
  rw [<-e1]
  exact ⟨_,Heap.get?_push_size _ rfl,rfl,rfl⟩
end
section
variable {prog:Program} {w:World} {A:Around} {E:Value->Shared->Prop} {s:Shared}
end
section
variable {X:Cx} {pins:List (Addr×Obj)} {σ:St} {H:Hp} {s:Shared} {d:Addr} {o:Obj}
end
section
variable {P:Program} {w:World} {K:W.Frag} {tg:Expr} {d:Addr} {o:Obj} {es:Array DictEntry} {ep:Nat}
end
section
variable {X:Cx} {tg e:Expr} {td:TE} {apos cpos:Pos}
end
theorem boot_zip5:bootBuiltins "zip"=some (.type "zip"):=by decide+kernel
def Itz (K:W.Frag) (a b:Addr):It:=
 ⟨fun i H=>∃(xs ys:List V) (x y:V),SqL K H a xs/\SqL K H b ys/\xs[i]?=some x/\ys[i]?=some y,
  fun i H v H'=>∃T x y,v=.ref T/\H T=none/\H'=upd H T (.tup [x,y])/\(∀xs,SqL K H a xs->xs[i]?=some x)/\∀ys,SqL K H b ys->ys[i]?=some y,
  fun i H=>∃xs ys:List V,SqL K H a xs/\SqL K H b ys/\(xs.length<=i\/ys.length<=i)⟩
theorem turn_zip {P:Program} {w:World} {K:W.Frag} {elts:List Expr} {kk:Nat} {tpos:Pos} {a b z TI TO i1 i2:Addr} (D:ZipApart z TI TO i1 i2 a b):
  Turn P w K (.Tuple elts kk tpos) (Itz K a b) [z,TI,TO,i1,i2] z (fun i h=>IsZip h z TI TO .none/\IsPair h TI (.ref i1) (.ref i2)/\(∃x y,IsPair h TO x y)/\h.IsListIter i1 a i/\h.IsListIter i2 b i) where
 mem:=by simp
 obj:=fun i h st c hc=>by
  obtain ⟨hz,hTI,⟨x,y,hTO⟩,⟨o1,e1,_,d1⟩,⟨o2,e2,_,d2⟩⟩:=st
  have e':c=z\/c=TI\/c=TO\/c=i1\/c=i2:=by simpa using hc
  rcases e' with q|q|q|q|q
  ·rw [q];exact ⟨_,hz,fun v q=>nomatch q⟩
  ·rw [q];exact ⟨_,hTI,fun v q=>nomatch q⟩
  ·rw [q];exact ⟨_,hTO,fun v q=>nomatch q⟩
  ·rw [q];exact ⟨o1,e1,fun v q=>by rw [d1] at q;cases q⟩
  ·rw [q];exact ⟨o2,e2,fun v q=>by rw [d2] at q;cases q⟩
 keep:=fun i h h' st k=>by
  obtain ⟨hz,hTI,⟨x,y,hTO⟩,h1,h2⟩:=st
  exact ⟨k z (by simp) _ hz,k TI (by simp) _ hTI,⟨x,y,k TO (by simp) _ hTO⟩,h1.at fun o q=>k i1 (by simp) o q,h2.at fun o q=>k i2 (by simp) o q⟩
 item:=by
  intro X hP hw hK hc i pins s σ H E I hf st hg
  subst hP hw hK
  obtain ⟨hz,hTI,⟨x0,y0,hTO⟩,h1,h2⟩:=st
  obtain ⟨xs,ys,x,y,hqx,hqy,hx,hy⟩:=hg
  obtain ⟨its,rv,p,_⟩:=I.list hqx
  obtain ⟨its2,rv2,p2,_⟩:=I.list hqy
  obtain ⟨u,hu,ru⟩:=rv.get hx
  obtain ⟨u2,hu2,ru2⟩:=rv2.get hy
  have hzl:z < s.heap.objs.size:=Heap.lt_size hz
  refine wpAny_pyNext_zip_item D hz hTI hTO h1 h2 p.isList p2.isList (x:=u) (y:=u2) (by simpa using hu) (by simpa using hu2) fun h' z' TO' h1' h2' hT hsz hk=>?_
  refine ⟨_,rfl,wpAny_letOwnedTupleGo_zip (s:={s with heap:=h'}) z' fun h'' z'' sb=>?_⟩
  have hT2:h''.get? s.heap.objs.size=some {cls:=.type "tuple",data:=.seq #[u,u2]}:=(sb.2 _ (Nat.ne_of_gt hzl)).trans hT
  have new:ObjOk X.prog X.w (upd H s.heap.objs.size (.tup [x,y])) h'' s.heap.objs.size (.tup [x,y]):=
   ⟨by show 2<=sizeLine;decide,[u,u2],.cons ru (.cons ru2 .nil),⟨_,hT2,rfl,_,rfl⟩⟩
  have I1:Inv X pins σ (upd H s.heap.objs.size (.tup [x,y])) {s with heap:=h''}:=
   I.turnedNew (t':=s.toks) (ch:=[z,TI,TO,i1,i2]) (fun c o hb q=>(sb.2 c (fun q'=>hb (by simp [q']))).trans (hk c o (fun q'=>hb (by simp [q'])) (fun q'=>hb (by simp [q'])) (fun q'=>hb (by simp [q'])) (fun q'=>hb (by simp [q'])) q)) hf (Nat.le_refl _) new
  refine ⟨.ref s.heap.objs.size,_,I1,rfl,⟨_,x,y,rfl,I.hok.fresh (Nat.le_refl _),rfl,fun l hl=>by rw [I.list_inj hl hqx];exact hx,fun l hl=>by rw [I.list_inj hl hqy];exact hy⟩,⟨z'',?_,⟨u,u2,?_⟩,?_,?_⟩,fun c hcm=>?_⟩
  ·exact (sb.2 _ D.TIz).trans (hk _ _ D.TIz D.TITO D.TIi1 D.TIi2 hTI)
  ·exact (sb.2 _ D.TOz).trans TO'
  ·exact h1'.at fun o q=>(sb.2 _ D.i1z).trans q
  ·exact h2'.at fun o q=>(sb.2 _ D.i2z).trans q
  ·have hlt:c < s.heap.objs.size:=by
    have e':c=z\/c=TI\/c=TO\/c=i1\/c=i2:=by simpa using hcm
    rcases e' with q|q|q|q|q
    ·rw [q];exact hzl
    ·rw [q];exact Heap.lt_size hTI
    ·rw [q];exact Heap.lt_size hTO
    ·rw [q];obtain ⟨_,e1,_⟩:=h1;exact Heap.lt_size e1
    ·rw [q];obtain ⟨_,e2,_⟩:=h2;exact Heap.lt_size e2
   rw [upd_ne (Nat.ne_of_lt hlt)]
   exact (hf c hcm).1
 done:=by
  intro X hP hw hK hc i pins s σ H E I hf st hg
  subst hP hw hK
  obtain ⟨hz,hTI,⟨x0,y0,hTO⟩,h1,h2⟩:=st
  obtain ⟨xs,ys,hqx,hqy,hend⟩:=hg
  obtain ⟨its,rv,p,_⟩:=I.list hqx
  obtain ⟨its2,rv2,p2,_⟩:=I.list hqy
  have l1:=rv.length
  have l2:=rv2.length
  have he:its.toArray[i]?=none\/its2.toArray[i]?=none:=by
   rcases hend with q|q
   ·exact .inl (by simp;omega)
   ·exact .inr (by simp;omega)
  exact wpAny_pyNext_zip_end (I.ok.hd hc) D hz hTI hTO h1 h2 p.isList p2.isList he fun h' hk=>⟨rfl,I.turnedL (t':=s.toks) (ch:=[z,TI,TO,i1,i2]) (fun c o hb q=>
   hk c o (fun q'=>hb (by simp [q'])) (fun q'=>hb (by simp [q'])) (fun q'=>hb (by simp [q'])) (fun q'=>hb (by simp [q'])) q) hf⟩
 self:=fun A i s Q E st h=>wpAny_pyIter_zip st.1 h
def iZip (K:W.Frag) (ta:TA):TI:=fun σ H R=>ta σ H fun vs H1=>∃a b xs ys,vs=[.ref a,.ref b]/\SqL K H1 a xs/\SqL K H1 b ys/\R (Itz K a b) H1
theorem pi_zip {X:Cx} {e e2:Expr} {ta:TA} {p pos tpos:Pos} {elts:List Expr} {kk:Nat} (hg:Gl X "zip") (hm:X.mg "zip"=none) (ha:PA X [e,e2] ta)
  (hs:starEach [e,e2] X.env=(false,eval e X.env)::starEach [e2] X.env:=by rfl) (hpl:(backTo pos (starEach [e2] X.env)).any (·.1)=false:=by rfl):
  PI X (.Tuple elts kk tpos) (.Call (.Name "zip" p) [e,e2] [] pos) (iZip X.K ta):=by
 intro pins s σ H R I h
 refine Call_ (ld_blt I hg hm boot_zip5 (PyProof.Rows.callWith_type1 (thn (ha pos pins s σ H _ I h) fun us s1 ⟨vs,H1,I1,r1,q1⟩=>?_) hs hpl))
 obtain ⟨a,b,xs,ys,ex,hqx,hqy,q⟩:=q1
 subst ex
 cases r1 with
 |cons r rr=>
  cases rr with
  |cons r' rr=>
   cases rr
   cases r
   cases r'
   obtain ⟨its,rv,p1,_⟩:=I1.list hqx
   obtain ⟨its2,rv2,p2,_⟩:=I1.list hqy
   have la:a < s1.heap.objs.size:=p1.lt
   have lb:b < s1.heap.objs.size:=p2.lt
   refine call_zip_2 p1.isList p2.isList fun h' hz hTI hTO h1 h2 hsz hk=>wpAny_pyIter_zip hz ?_
   have I2:Inv X pins σ H1 {s1 with heap:=h'}:=I1.kept (t':=s1.toks) hk
   refine ⟨s1.heap.objs.size+4,[s1.heap.objs.size+4,s1.heap.objs.size+2,s1.heap.objs.size+3,s1.heap.objs.size,s1.heap.objs.size+1],_,_,H1,rfl,I2,turn_zip (PySem.W.ktu_apart s1.heap.objs.size a b la lb),⟨hz,hTI,⟨_,_,hTO⟩,h1,h2⟩,fun c hcm=>?_,q⟩
   have e':c=s1.heap.objs.size+4\/c=s1.heap.objs.size+2\/c=s1.heap.objs.size+3\/c=s1.heap.objs.size\/c=s1.heap.objs.size+1:=by simpa using hcm
   have hle:s1.heap.objs.size<=c:=by
    rcases e' with z|z|z|z|z
    ·rw [z];exact Nat.le_add_right _ _
    ·rw [z];exact Nat.le_add_right _ _
    ·rw [z];exact Nat.le_add_right _ _
    ·rw [z];exact Nat.le_refl _
    ·rw [z];exact Nat.le_add_right _ _
   exact I1.fpOk hle (I1.hok.fresh hle)
end L2
section
namespace Bits
open PySem PyProof.Rows
theorem bitAnd_mask {x:Int} (k:Nat) (hx:0<=x):Builtin.bitAnd x (2 ^ k - 1)=x % 2 ^ k:=by
 obtain ⟨n,rfl⟩:=Int.eq_ofNat_of_zero_le hx
 have hp:0 < 2 ^ k:=Nat.two_pow_pos k
 rw [two_pow_cast]
 have e:((2 ^ k:Nat):Int) - 1=((2 ^ k - 1:Nat):Int):=by
  generalize (2:Nat) ^ k=m at hp
  omega
 rw [e,bitAnd_pp (by omega) (by omega),Int.toNat_natCast,Int.toNat_natCast,Nat.and_two_pow_sub_one_eq_mod]
 first
  |rfl
  |exact Int.natCast_emod _ _
  |simp
theorem nat_xor_add_and (m:Nat):∀n:Nat,(m ^^^ n)+2*(m&&& n)=m+n:=by
 induction m using Nat.strongRecOn with
 |_ m ih=>
  intro n
  by_cases h0:m=0
  ·subst h0
   simp
  ·have ih':=ih (m / 2) (by omega) (n / 2)
   rw [<-Nat.xor_div_two,<-Nat.and_div_two] at ih'
   have o1:=@Nat.xor_mod_two_eq_one m n
   have a1:=@Nat.and_mod_two_eq_one m n
   omega
theorem bitXor_pp {x y:Int} (hx:0<=x) (hy:0<=y):Builtin.bitXor x y=((x.toNat ^^^ y.toNat:Nat):Int):=by
 have e:=nat_xor_add_and x.toNat y.toNat
 rw [bitXor_and,bitAnd_pp hx hy]
 omega
theorem bitOr_pp {x y:Int} (hx:0<=x) (hy:0<=y):Builtin.bitOr x y=((x.toNat|||y.toNat:Nat):Int):=by
 have e:=nat_or_add_and x.toNat y.toNat
 rw [bitOr_and,bitAnd_pp hx hy]
 omega
end Bits
end
section
namespace TL
open PySem PySem.Builtin PySem.Builtin.Str PySem.StrLaws
end TL
end
namespace L2
open PySem PySem.Spec PyProof.Rows
section
variable {X:Cx} {pins:List (Addr×Obj)} {σ:St} {H:Hp} {s:Shared} {Q:VK}
end
section
variable {X:Cx}
end
section
variable {X:Cx} {o e:Expr} {to te:TE}
end
section
variable {X:Cx}
end
end L2
namespace Att
open PySem PySem.W PySem.Calls PyProof.Rows
section
variable {prog:Program} {w:World} {A:Around} {E:Value->Shared->Prop} {s:Shared} {K:Frag}
end
end Att
namespace L2
open PySem PySem.Spec PyProof.Rows
def inClass (s:Stmt) (j:Nat):Stmt:=match s with
 |.ClassDef _ _ _ body _ _ _ _ _ _ _=>body.getD j (.Pass ⟨0,0,0,0⟩)
 |_=>.Pass ⟨0,0,0,0⟩
def defArgs (s:Stmt):Arguments:=match s with
 |.FunctionDef _ a _ _ _ _ _ _ _ _=>a
 |_=>{posonlyargs:=[],args:=[],vararg:=none,kwonlyargs:=[],kw_defaults:=[],kwarg:=none,defaults:=[]}
def defBody (s:Stmt):List Stmt:=match s with
 |.FunctionDef _ _ b _ _ _ _ _ _ _=>b
 |_=>[]
def defScope (s:Stmt):Scope:=match s with
 |.FunctionDef _ _ _ _ _ _ sc _ _ _=>sc
 |_=>{kind:=.function,names:=[],isGenerator:=false,isCoroutine:=false}
abbrev CX0:CXT:=fun _ _ _ _ _ _=>False
abbrev E0:XK:=fun _ _ _=>False
theorem pass0 {X:Cx}:Passes CX0 X E0:=fun _ _ _ _ _ _ _ h=>h.elim
structure Fun (K:W.Frag) (x qual:Str) (st:Stmt) (f:Addr) (fd:FuncData):Prop where
 ex:∃(oc:Value) (od:Option Addr) (kV doc pm:Value) (an:Option Addr) (cdv ct:Value) (osl:Array (Option Value)),
  fd=PySem.W.fnOf x qual (defArgs st) (defBody st) (defScope st) .none kV doc pm an cdv ct/\K.lookup f=some ⟨oc,od,.func fd,osl⟩/\PySem.W.codeIn K cdv qual=true
 kp:PySem.W.keepIn K (.ref f)=true
section
variable {P:Program} {w:World} {K:W.Frag} {mg:Str->Option Value} {base:Heap}
theorem Fun.ok {x qual:Str} {st:Stmt} {f:Addr} {fd:FuncData} {N ps:List Str} {k:Nat} {sp:Sp} (F:Fun K x qual st f fd) (S:FnScope N ps (defScope st)) (len:∀vs H Q E,sp vs H Q E->vs.length=ps.length)
  (hbody:∀(cdv:Value) (A:Around) (outer:List Env) (s:Shared) (H:Hp) (vs:List V) (Q:VK) (E:XK),Room k (A.deeper (envOfC qual (defScope st) s.heap.objs.size f cdv))->sp vs H Q E->
   ∃t,PSs (cxOf CX0 P w K mg base N qual (defScope st) f cdv A outer s H E).nox (defBody st) t/\t {nx:=fun _ H'=>Q .non H',rt:=Q} (start N vs) H):FnOk P w K mg base CX0 (k+1) f fd ps sp:=by
 obtain ⟨oc,od,kV,doc,pm,an,cdv,ct,osl,rfl,lk,hcd⟩:=F.ex
 refine fn_of lk hcd S len fun A outer s H vs Q E hr hsp=>?_
 obtain ⟨t,h,q⟩:=hbody cdv A outer s H vs Q E hr hsp
 exact ⟨t,h.nox,q⟩
theorem Fun.binds {x qual:Str} {st:Stmt} {f:Addr} {fd:FuncData} {ps:List Str} (F:Fun K x qual st f fd)
  (h:∀(kV doc pm:Value) (an:Option Addr) (cdv ct:Value) (us:List Value),us.length=ps.length->bindArgs (PySem.W.fnOf x qual (defArgs st) (defBody st) (defScope st) .none kV doc pm an cdv ct) ⟨us,[]⟩=pure (ps.zip us)):Binds K fd ps []:=by
 obtain ⟨oc,od,kV,doc,pm,an,cdv,ct,osl,rfl,lk,hcd⟩:=F.ex
 exact .all (h kV doc pm an cdv ct)
theorem fun_mk {x qual:Str} {st:Stmt} {f:Addr} {oc:Value} {od an:Option Addr} {osl:Array (Option Value)} {kV doc pm cdv ct:Value} (l:K.lookup f=some ⟨oc,od,.func (PySem.W.fnOf x qual (defArgs st) (defBody st) (defScope st) .none kV doc pm an cdv ct),osl⟩)
  (c:PySem.W.codeIn K cdv qual=true) (k:PySem.W.keepIn K (.ref f)=true):Fun K x qual st f (PySem.W.fnOf x qual (defArgs st) (defBody st) (defScope st) .none kV doc pm an cdv ct):=⟨⟨oc,od,kV,doc,pm,an,cdv,ct,osl,rfl,l,c⟩,k⟩
end
section
variable {X:Cx}
theorem pv (i:Nat) {x:Str} {pos:Pos} (hN:X.N[i]?=some x:=by rfl) (hv:Vis X.env.scope x:=by first|exact Or.inl rfl|exact Or.inr (Or.inl rfl)|exact Or.inr (Or.inr rfl)) (hd:(x == ("__debug__":Str))=false:=by decide)
  (hcd:(x == ("__classdict__":Str))=false:=by decide):PE X (.Name x pos) (tVar i):=pe_var hN hv hd hcd
end
def Same (H H':Hp):Prop:=∀b o,H b=some o->H' b=some o
theorem Same.refl (H:Hp):Same H H:=fun _ _ h=>h
theorem Same.trans {H H1 H2:Hp} (a:Same H H1) (b:Same H1 H2):Same H H2:=fun c o h=>b c o (a c o h)
theorem Same.free {H H':Hp} (e:Same H H') {l:Addr} (h:H' l=Option.none):H l=Option.none:=by
 cases q:H l with
 |none=>rfl
 |some o=>
  rw [e l o q] at h
  cases h
theorem Same.seq {K:W.Frag} {H H':Hp} {a:Addr} {xs:List V} (e:Same H H') (h:SqL K H a xs):SqL K H' a xs:=by
 rcases h with (h|⟨o,h⟩)|h
 ·exact .inl (.inl (e _ _ h))
 ·exact .inl (.inr ⟨o,e _ _ h⟩)
 ·exact .inr h
section
variable {κ:Type} [DecidableEq κ]
end
theorem at_of {xs:List V} {z:Int} {j:Nat} {v:V} (e:z=(j:Int)) (h:xs[j]?=some v):atI xs z=some v:=by
 rw [e]
 exact atI_nat h
open PySem.W (WData Codec OpenSpec Well WellAll ReadsW ReadsAllW)
mutual
inductive Dw (K:W.Frag) (H:Hp):V->WData->Prop
 |non:Dw K H .non .none
 |bl (b:Bool):Dw K H (.bl b) (.bool b)
 |int (i:Int):Dw K H (.int i) (.int i)
 |str (x:Str):Dw K H (.str x) (.str x)
 |byt (b:Array UInt8):Dw K H (.byt b) (.bytes b.toList)
 |lst {a:Addr} {xs:List V} {ds:List WData}:SqL K H a xs->DwAll K H xs ds->Dw K H (.ref a) (.list ds)
 |tup {a:Addr} {xs:List V} {ds:List WData}:SqT K H a xs->DwAll K H xs ds->Dw K H (.ref a) (.tuple ds)
inductive DwAll (K:W.Frag) (H:Hp):List V->List WData->Prop
 |nil:DwAll K H [] []
 |cons {v:V} {vs:List V} {d:WData} {ds:List WData}:Dw K H v d->DwAll K H vs ds->DwAll K H (v::vs) (d::ds)
end
theorem dw_ints {K:W.Frag} {H:Hp}:∀ns:List Int,DwAll K H (ns.map V.int) (ns.map WData.int)
 |[]=>.nil
 |n::r=>.cons (.int n) (dw_ints r)
theorem ints_dw {K:W.Frag} {H:Hp}:∀(ns:List Int) (xs:List V),DwAll K H xs (ns.map WData.int)->xs=ns.map V.int
 |[],xs,h=>by
  cases h
  rfl
 |n::r,xs,h=>by
  cases h with
  |cons h1 h2=>
   cases h1
   rw [ints_dw r _ h2] <;> rfl
section
variable {P:Program} {w:World} {K:W.Frag} {H:Hp} {h:Heap} {R:PySem.W.WRecords} {cl:Str->Option Addr}
theorem sqL_at {a:Addr} {xs:List V} (hok:HOk P w H h) (KX:K.In h) (q:SqL K H a xs):∃(its:List Value) (o:Obj) (n:Nat),Vals xs its/\h.get? a=some o/\o.cls=.type "list"/\o.data=.seq its.toArray n:=by
 rcases q with q|⟨o,its,n,e,hc,_,hd,_,hv⟩
 ·obtain ⟨_,its,n,hv,e⟩:=(show ObjOk P w H h a (.lst xs) from q.ok hok)
  exact ⟨its,_,n,hv,e,rfl,rfl⟩
 ·exact ⟨its.toList,o,n,hv,KX _ _ e,hc,by simp [hd]⟩
theorem sqT_at {a:Addr} {xs:List V} (hok:HOk P w H h) (KX:K.In h) (q:SqT K H a xs):∃(its:List Value) (o:Obj) (n:Nat),Vals xs its/\h.get? a=some o/\o.cls=.type "tuple"/\o.data=.seq its.toArray n:=by
 rcases q with q|⟨o,its,n,e,hc,hd,_,hv⟩
 ·obtain ⟨_,its,hv,o,e,hc,n,hd⟩:=(show ObjOk P w H h a (.tup xs) from q.ok hok)
  exact ⟨its,o,n,hv,e,hc,hd⟩
 ·exact ⟨its.toList,o,n,hv,KX _ _ e,hc,by simp [hd]⟩
mutual
theorem Dw.reads (hok:HOk P w H h) (KX:K.In h):∀(d:WData) (v:V) (u:Value),Dw K H v d->RelV v u->∃as,ReadsW R cl h u d as
 |.none,_,_,x,r=>by
  cases x
  cases r
  exact ⟨_,ReadsW.none⟩
 |.bool b,_,_,x,r=>by
  cases x
  cases r
  exact ⟨_,ReadsW.bool b⟩
 |.int i,_,_,x,r=>by
  cases x
  obtain ⟨t,rfl⟩:=r
  exact ⟨_,ReadsW.int i t⟩
 |.str s,_,_,x,r=>by
  cases x
  obtain ⟨t,rfl⟩:=r
  exact ⟨_,ReadsW.str s t⟩
 |.bytes b,_,_,x,r=>by
  cases x
  obtain ⟨t,rfl⟩:=r
  exact ⟨_,ReadsW.bytes _ t⟩
 |.list ds,_,_,x,r=>by
  cases x with
  |lst hs ha=>
   cases r
   obtain ⟨its,o,n,rv,ho,hc,hd⟩:=sqL_at hok KX hs
   obtain ⟨as,hr⟩:=Dw.readsAll hok KX ds _ its ha rv
   exact ⟨_,ReadsW.list ho hc hd hr⟩
 |.tuple ds,_,_,x,r=>by
  cases x with
  |tup hs ha=>
   cases r
   obtain ⟨its,o,n,rv,ho,hc,hd⟩:=sqT_at hok KX hs
   obtain ⟨as,hr⟩:=Dw.readsAll hok KX ds _ its ha rv
   exact ⟨_,ReadsW.tuple ho hc hd hr⟩
 |.float _,_,_,x,_=>by cases x
 |.dict _,_,_,x,_=>by cases x
 |.bytearray _,_,_,x,_=>by cases x
 |.set _,_,_,x,_=>by cases x
 |.frozenset _,_,_,x,_=>by cases x
 |.obj _ _,_,_,x,_=>by cases x
theorem Dw.readsAll (hok:HOk P w H h) (KX:K.In h):∀(ds:List WData) (vs:List V) (us:List Value),DwAll K H vs ds->Vals vs us->∃as,ReadsAllW R cl h us ds as
 |[],_,_,x,r=>by
  cases x
  cases r
  exact ⟨_,ReadsAllW.nil⟩
 |d::ds,_,_,x,r=>by
  cases x with
  |cons h1 h2=>
   cases r with
   |cons r1 r2=>
    obtain ⟨as,q1⟩:=Dw.reads hok KX d _ _ h1 r1
    obtain ⟨bs,q2⟩:=Dw.readsAll hok KX ds _ _ h2 r2
    exact ⟨_,ReadsAllW.cons q1 q2⟩
end
end
mutual
def plW:WData->Bool
 |.none=>true
 |.bool _=>true
 |.int _=>true
 |.str _=>true
 |.bytes _=>true
 |.list xs=>plWs xs
 |.tuple xs=>plWs xs
 |_=>false
def plWs:List WData->Bool
 |[]=>true
 |x::r=>plW x&&plWs r
end
theorem plWs_map {α:Type} {f:α->WData} (h:∀a,plW (f a)=true):∀l:List α,plWs (l.map f)=true
 |[]=>rfl
 |x::r=>by
  show (plW (f x)&&plWs (r.map f))=true
  rw [h x,plWs_map h r] <;> rfl
theorem pl_enc:∀(c:Codec) (a:c.denote),plW (c.enc a)=true
 |.unit,_=>rfl
 |.bool,_=>rfl
 |.int _ _,_=>rfl
 |.nat _ _,_=>rfl
 |.u8,_=>rfl
 |.bytes _ _,_=>rfl
 |.text _ _ _ _,_=>rfl
 |.list _ _ c,a=>plWs_map (fun x=>pl_enc c x) a
 |.pair c d,a=>by
  show (plW (c.enc a.1)&&(plW (d.enc a.2)&&true))=true
  rw [pl_enc c a.1,pl_enc d a.2] <;> rfl
 |.triple c d e,a=>by
  show (plW (c.enc a.1)&&(plW (d.enc a.2.1)&&(plW (e.enc a.2.2)&&true)))=true
  rw [pl_enc c a.1,pl_enc d a.2.1,pl_enc e a.2.2] <;> rfl
 |.option c,none=>rfl
 |.option c,some x=>pl_enc c x
theorem pl_encAll:∀(cs:List Codec) (a:Codec.denoteAll cs),plWs (Codec.encAll cs a)=true
 |[],_=>rfl
 |c::cs,a=>by
  show (plW (c.enc a.1)&&plWs (Codec.encAll cs a.2))=true
  rw [pl_enc c a.1,pl_encAll cs a.2] <;> rfl
theorem weight_mem:∀{xs:List WData} {d:WData},d∈xs->d.weight<=WData.weightAll xs
 |[],d,h=>absurd h (by simp)
 |x::r,d,h=>by
  show d.weight<=x.weight+1+WData.weightAll r
  rcases List.mem_cons.mp h with e|m
  ·rw [e]
   omega
  ·have z:=weight_mem m
   omega
def toV:Value->V
 |.none=>.non
 |.bool b=>.bl b
 |.int i _=>.int i
 |.str x _=>.str x
 |.bytes b _=>.byt b
 |.ref a=>.ref a
 |_=>.non
def OkU (A:List Addr):Value->Prop
 |.none=>True
 |.bool _=>True
 |.int _ _=>True
 |.str _ _=>True
 |.bytes _ _=>True
 |.ref a=>a∈A
 |_=>False
theorem OkU.mono {A B:List Addr} (h:∀a∈A,a∈B):∀{u:Value},OkU A u->OkU B u:=fun {u} x=>by
 cases u with
 |ref a=>exact h a x
 |none=>trivial
 |bool b=>trivial
 |int i t=>trivial
 |str s t=>trivial
 |bytes b t=>trivial
 |_=>exact False.elim x
theorem relV_toV {A:List Addr} {u:Value} (x:OkU A u):RelV (toV u) u:=by
 cases u with
 |ref a=>rfl
 |none=>rfl
 |bool b=>rfl
 |int i t=>exact ⟨t,rfl⟩
 |str s t=>exact ⟨t,rfl⟩
 |bytes b t=>exact ⟨t,rfl⟩
 |_=>exact False.elim x
theorem vals_toV {A:List Addr}:∀{vs:List Value},(∀u∈vs,OkU A u)->Vals (vs.map toV) vs
 |[],_=>.nil
 |u::r,h=>.cons (relV_toV (h u (List.mem_cons_self ..))) (vals_toV fun x hx=>h x (List.mem_cons_of_mem _ hx))
def ArgOb (h:Heap) (A:List Addr) (a:Addr):Prop:=∃vs:List Value,vs.length<=sizeLine/\(∀u∈vs,OkU A u)/\
 (h.get? a=some {cls:=.type "list",data:=.seq vs.toArray}\/h.get? a=some {cls:=.type "tuple",data:=.seq vs.toArray})
theorem ArgOb.mono {h:Heap} {A B:List Addr} {a:Addr} (k:∀a∈A,a∈B) (x:ArgOb h A a):ArgOb h B a:=by
 obtain ⟨vs,h1,h2,h3⟩:=x
 exact ⟨vs,h1,fun u hu=>(h2 u hu).mono k,h3⟩
theorem wellAll_len {P:Params} {h:Heap}:∀{vs:List Value} {ds:List WData},WellAll P h vs ds->vs.length=ds.length
 |_,_,.nil=>rfl
 |_,_,.cons _ b=>by
  show _+1=_+1
  rw [wellAll_len b]
theorem well_list {P:Params} {h:Heap} {v:Value} {ds:List WData} (x:Well P h v (.list ds)):∃(a:Addr) (vs:List Value),v=.ref a/\h.get? a=some {cls:=.type "list",data:=.seq vs.toArray}/\WellAll P h vs ds:=by
 cases x with
 |list ho hall=>exact ⟨_,_,rfl,ho,hall⟩
theorem well_tuple {P:Params} {h:Heap} {v:Value} {ds:List WData} (x:Well P h v (.tuple ds)):∃(a:Addr) (vs:List Value),v=.ref a/\h.get? a=some {cls:=.type "tuple",data:=.seq vs.toArray}/\WellAll P h vs ds:=by
 cases x with
 |tuple ho hall=>exact ⟨_,_,rfl,ho,hall⟩
theorem well_cons {P:Params} {h:Heap} {us:List Value} {d:WData} {ds:List WData} (x:WellAll P h us (d::ds)):∃(v:Value) (vs:List Value),us=v::vs/\Well P h v d/\WellAll P h vs ds:=by
 cases x with
 |cons a b=>exact ⟨_,_,rfl,a,b⟩
theorem line_of {n:Nat} (h:n<=1048576):n<=sizeLine:=Nat.le_trans h (by decide)
section
variable {P:Params} {h:Heap}
mutual
theorem area_one:∀(d:WData) (v:Value),Well P h v d->plW d=true->d.weight<=1048576->∃A:List Addr,OkU A v/\∀a∈A,ArgOb h A a
 |.none,_,x,_,_=>by
  cases x
  exact ⟨[],trivial,fun a m=>absurd m (by simp)⟩
 |.bool b,_,x,_,_=>by
  cases x
  exact ⟨[],trivial,fun a m=>absurd m (by simp)⟩
 |.int i,_,x,_,_=>by
  cases x
  exact ⟨[],trivial,fun a m=>absurd m (by simp)⟩
 |.str s,_,x,_,_=>by
  cases x
  exact ⟨[],trivial,fun a m=>absurd m (by simp)⟩
 |.bytes b,_,x,_,_=>by
  cases x
  exact ⟨[],trivial,fun a m=>absurd m (by simp)⟩
 |.list ds,_,x,p,z=>by
  obtain ⟨a,vs,rfl,ho,hall⟩:=well_list x
  have z2:WData.weightAll ds<=1048576:=z
  obtain ⟨A,h1,h2⟩:=area_all ds _ hall p fun d hd=>Nat.le_trans (weight_mem hd) z2
  have k:∀b∈A,b∈a::A:=fun b hb=>List.mem_cons_of_mem _ hb
  refine ⟨a::A,List.mem_cons_self ..,fun b hb=>?_⟩
  rcases List.mem_cons.mp hb with e|m
  ·rw [e]
   exact ⟨vs,line_of (by rw [wellAll_len hall];exact Nat.le_trans (PySem.W.length_le_weightAllW ds) z2),fun u hu=>(h1 u hu).mono k,.inl ho⟩
  ·exact (h2 b m).mono k
 |.tuple ds,_,x,p,z=>by
  obtain ⟨a,vs,rfl,ho,hall⟩:=well_tuple x
  have z2:WData.weightAll ds<=1048576:=z
  obtain ⟨A,h1,h2⟩:=area_all ds _ hall p fun d hd=>Nat.le_trans (weight_mem hd) z2
  have k:∀b∈A,b∈a::A:=fun b hb=>List.mem_cons_of_mem _ hb
  refine ⟨a::A,List.mem_cons_self ..,fun b hb=>?_⟩
  rcases List.mem_cons.mp hb with e|m
  ·rw [e]
   exact ⟨vs,line_of (by rw [wellAll_len hall];exact Nat.le_trans (PySem.W.length_le_weightAllW ds) z2),fun u hu=>(h1 u hu).mono k,.inr ho⟩
  ·exact (h2 b m).mono k
 |.float _,_,_,p,_=>Bool.noConfusion (show false=true from p)
 |.dict _,_,_,p,_=>Bool.noConfusion (show false=true from p)
 |.bytearray _,_,_,p,_=>Bool.noConfusion (show false=true from p)
 |.set _,_,_,p,_=>Bool.noConfusion (show false=true from p)
 |.frozenset _,_,_,p,_=>Bool.noConfusion (show false=true from p)
 |.obj _ _,_,_,p,_=>Bool.noConfusion (show false=true from p)
theorem area_all:∀(ds:List WData) (vs:List Value),WellAll P h vs ds->plWs ds=true->(∀d∈ds,d.weight<=1048576)->∃A:List Addr,(∀u∈vs,OkU A u)/\∀a∈A,ArgOb h A a
 |[],_,x,_,_=>by
  cases x
  exact ⟨[],fun u m=>absurd m (by simp),fun a m=>absurd m (by simp)⟩
 |d::ds,_,x,p,z=>by
  obtain ⟨v,vs,rfl,x1,x2⟩:=well_cons x
  have q:plW d=true/\plWs ds=true:=Bool.and_eq_true_iff.mp p
  obtain ⟨A,a1,a2⟩:=area_one d v x1 q.1 (z d (List.mem_cons_self ..))
  obtain ⟨B,b1,b2⟩:=area_all ds vs x2 q.2 fun e he=>z e (List.mem_cons_of_mem _ he)
  have kA:∀b∈A,b∈A++B:=fun b hb=>List.mem_append.mpr (.inl hb)
  have kB:∀b∈B,b∈A++B:=fun b hb=>List.mem_append.mpr (.inr hb)
  refine ⟨A++B,fun u hu=>?_,fun b hb=>?_⟩
  ·rcases List.mem_cons.mp hu with e|m
   ·rw [e]
    exact a1.mono kA
   ·exact (b1 u m).mono kB
  ·rcases List.mem_append.mp hb with m|m
   ·exact (a2 b m).mono kA
   ·exact (b2 b m).mono kB
end
end
def hoOf (o:Obj):Option HO:=match o.data with
 |.seq vs _=>if (o.cls == Value.type "list")=true then some (.frz o (.lst (vs.toList.map toV))) else some (.frz o (.tup (vs.toList.map toV)))
 |_=>none
def argH (K:W.Frag) (h:Heap) (A:List Addr):Hp:=fun b=>if b∈A then (if (K.lookup b).isNone=true then (h.get? b).bind hoOf else none) else none
def OnlyF (H:Hp):Prop:=∀b,H b=none\/∃o u,H b=some (.frz o u)
theorem hoOf_lst (vs:List Value):hoOf {cls:=.type "list",data:=.seq vs.toArray}=some (.frz {cls:=.type "list",data:=.seq vs.toArray} (.lst (vs.map toV))):=by
 show (if (Value.type "list" == Value.type "list")=true then some (HO.frz {cls:=.type "list",data:=.seq vs.toArray} (.lst (vs.toArray.toList.map toV))) else some (HO.frz {cls:=.type "list",data:=.seq vs.toArray} (.tup (vs.toArray.toList.map toV))))=_
 rw [if_pos (beq_self_eq_true _)]
theorem hoOf_tup (vs:List Value):hoOf {cls:=.type "tuple",data:=.seq vs.toArray}=some (.frz {cls:=.type "tuple",data:=.seq vs.toArray} (.tup (vs.map toV))):=by
 show (if (Value.type "tuple" == Value.type "list")=true then some (HO.frz {cls:=.type "tuple",data:=.seq vs.toArray} (.lst (vs.toArray.toList.map toV))) else some (HO.frz {cls:=.type "tuple",data:=.seq vs.toArray} (.tup (vs.toArray.toList.map toV))))=_
 rw [if_neg (by decide)]
section
variable {P:Program} {w:World} {K:W.Frag} {h:Heap} {A:List Addr}
theorem argH_at {b:Addr} {o:Obj} (hb:b∈A) (hk:K.lookup b=none) (e:h.get? b=some o):argH K h A b=hoOf o:=by
 unfold argH
 rw [if_pos hb,hk,if_pos (show (none:Option Obj).isNone=true from rfl),e] <;> rfl
theorem of_argH {b:Addr} {u:HO} (q:argH K h A b=some u):b∈A/\K.lookup b=none:=by
 unfold argH at q
 by_cases hb:b∈A
 ·rw [if_pos hb] at q
  cases hk:K.lookup b with
  |none=>exact ⟨hb,rfl⟩
  |some o=>
   rw [hk,if_neg (by simp)] at q
   cases q
 ·rw [if_neg hb] at q
  cases q
theorem argH_is (ar:∀a∈A,ArgOb h A a) {b:Addr} {u:HO} (q:argH K h A b=some u):K.lookup b=none/\∃vs:List Value,vs.length<=sizeLine/\(∀u∈vs,OkU A u)/\
  ((h.get? b=some {cls:=.type "list",data:=.seq vs.toArray}/\u=.frz {cls:=.type "list",data:=.seq vs.toArray} (.lst (vs.map toV)))\/
   (h.get? b=some {cls:=.type "tuple",data:=.seq vs.toArray}/\u=.frz {cls:=.type "tuple",data:=.seq vs.toArray} (.tup (vs.map toV)))):=by
 obtain ⟨hb,hk⟩:=of_argH q
 obtain ⟨vs,h1,h2,h3⟩:=ar b hb
 refine ⟨hk,vs,h1,h2,?_⟩
 rcases h3 with e|e
 ·rw [argH_at hb hk e,hoOf_lst] at q
  exact .inl ⟨e,(Option.some.inj q).symm⟩
 ·rw [argH_at hb hk e,hoOf_tup] at q
  exact .inr ⟨e,(Option.some.inj q).symm⟩
theorem argH_only (ar:∀a∈A,ArgOb h A a):OnlyF (argH K h A):=fun b=>by
 cases q:argH K h A b with
 |none=>exact .inl rfl
 |some u=>
  obtain ⟨_,vs,_,_,⟨_,e⟩|⟨_,e⟩⟩:=argH_is ar q
  ·exact .inr ⟨_,_,by rw [e]⟩
  ·exact .inr ⟨_,_,by rw [e]⟩
theorem argH_ok (ar:∀a∈A,ArgOb h A a):HOk P w (argH K h A) h:=fun b u q=>by
 obtain ⟨_,vs,h1,h2,⟨e,rfl⟩|⟨e,rfl⟩⟩:=argH_is ar q
 ·exact ⟨e,by rw [List.length_map];exact h1,vs,_,vals_toV h2,e⟩
 ·exact ⟨e,by rw [List.length_map];exact h1,vs,vals_toV h2,_,e,rfl,_,rfl⟩
theorem seq_inj {c c':Value} {vs us:List Value} (e:(some {cls:=c,data:=.seq vs.toArray}:Option Obj)=some {cls:=c',data:=.seq us.toArray}):c=c'/\vs=us:=by
 have e1:=Option.some.inj e
 have e2:c=c':=congrArg Obj.cls e1
 have e3:Data.seq vs.toArray=Data.seq us.toArray:=congrArg Obj.data e1
 injection e3 with e4
 refine ⟨e2,?_⟩
 have e5:=congrArg Array.toList e4
 simpa using e5
theorem argL (KX:K.In h) (ar:∀a∈A,ArgOb h A a) {a:Addr} {vs:List Value} (ha:a∈A) (e:h.get? a=some {cls:=.type "list",data:=.seq vs.toArray}):(∀u∈vs,OkU A u)/\SqL K (argH K h A) a (vs.map toV):=by
 obtain ⟨us,h1,h2,h3⟩:=ar a ha
 have hu:us=vs:=by
  rcases h3 with q|q
  ·rw [e] at q
   exact (seq_inj q).2.symm
  ·rw [e] at q
   exact absurd (Value.type.inj (seq_inj q).1) (by decide)
 subst hu
 refine ⟨h2,?_⟩
 cases hk:K.lookup a with
 |none=>exact .inl (.inr ⟨_,by rw [argH_at ha hk e,hoOf_lst]⟩)
 |some o=>
  have e2:=KX a o hk
  rw [e] at e2
  obtain rfl:=Option.some.inj e2
  exact .inr ⟨_,us.toArray,_,hk,rfl,rfl,rfl,by rw [List.size_toArray];exact h1,by simpa using vals_toV h2⟩
theorem argT (KX:K.In h) (ar:∀a∈A,ArgOb h A a) {a:Addr} {vs:List Value} (ha:a∈A) (e:h.get? a=some {cls:=.type "tuple",data:=.seq vs.toArray}):(∀u∈vs,OkU A u)/\SqT K (argH K h A) a (vs.map toV):=by
 obtain ⟨us,h1,h2,h3⟩:=ar a ha
 have hu:us=vs:=by
  rcases h3 with q|q
  ·rw [e] at q
   exact absurd (Value.type.inj (seq_inj q).1) (by decide)
  ·rw [e] at q
   exact (seq_inj q).2.symm
 subst hu
 refine ⟨h2,?_⟩
 cases hk:K.lookup a with
 |none=>exact .inl (.inr ⟨_,by rw [argH_at ha hk e,hoOf_tup]⟩)
 |some o=>
  have e2:=KX a o hk
  rw [e] at e2
  obtain rfl:=Option.some.inj e2
  exact .inr ⟨_,us.toArray,_,hk,rfl,rfl,by rw [List.size_toArray];exact h1,by simpa using vals_toV h2⟩
mutual
theorem dw_one {Pm:Params} (KX:K.In h) (ar:∀a∈A,ArgOb h A a):∀(d:WData) (v:Value),Well Pm h v d->plW d=true->OkU A v->Dw K (argH K h A) (toV v) d
 |.none,_,x,_,_=>by
  cases x
  exact .non
 |.bool b,_,x,_,_=>by
  cases x
  exact .bl b
 |.int i,_,x,_,_=>by
  cases x
  exact .int i
 |.str s,_,x,_,_=>by
  cases x
  exact .str s
 |.bytes b,_,x,_,_=>by
  cases x
  have z:=Dw.byt (K:=K) (H:=argH K h A) b.toArray
  exact z
 |.list ds,_,x,p,hu=>by
  obtain ⟨a,vs,rfl,ho,hall⟩:=well_list x
  obtain ⟨h2,hs⟩:=argL KX ar hu ho
  exact .lst hs (dw_all KX ar ds _ hall p h2)
 |.tuple ds,_,x,p,hu=>by
  obtain ⟨a,vs,rfl,ho,hall⟩:=well_tuple x
  obtain ⟨h2,hs⟩:=argT KX ar hu ho
  exact .tup hs (dw_all KX ar ds _ hall p h2)
 |.float _,_,_,p,_=>Bool.noConfusion (show false=true from p)
 |.dict _,_,_,p,_=>Bool.noConfusion (show false=true from p)
 |.bytearray _,_,_,p,_=>Bool.noConfusion (show false=true from p)
 |.set _,_,_,p,_=>Bool.noConfusion (show false=true from p)
 |.frozenset _,_,_,p,_=>Bool.noConfusion (show false=true from p)
 |.obj _ _,_,_,p,_=>Bool.noConfusion (show false=true from p)
theorem dw_all {Pm:Params} (KX:K.In h) (ar:∀a∈A,ArgOb h A a):∀(ds:List WData) (vs:List Value),WellAll Pm h vs ds->plWs ds=true->(∀u∈vs,OkU A u)->DwAll K (argH K h A) (vs.map toV) ds
 |[],_,x,_,_=>by
  cases x
  exact .nil
 |d::ds,_,x,p,hu=>by
  obtain ⟨v,vs,rfl,x1,x2⟩:=well_cons x
  have q:plW d=true/\plWs ds=true:=Bool.and_eq_true_iff.mp p
  exact .cons (dw_one KX ar d v x1 q.1 (hu _ (List.mem_cons_self ..))) (dw_all KX ar ds vs x2 q.2 fun u m=>hu u (List.mem_cons_of_mem _ m))
end
end
theorem spec_call {P:Program} {w:World} {K:W.Frag} {mg mb:Str->Option Value} {CX:CXT} {k:Nat} {fa:Addr} {fd:FuncData} {ps:List Str} {sp:Sp} {s₁:Shared} {vals:List Value} {ds:List WData} {R:PySem.W.WRecords} {cl:Str->Option Addr} {d0:WData}
  (KX:K.In s₁.heap) (hns:s₁.heap.Ns mainGlobals mg) (hb:s₁.heap.Ns builtinsNs mb) (hbb:∀x:Str,x≠"__name__"->mb x=bootBuiltins x) (hlim:s₁.heap.NoLimit) (hg:s₁.gens=#[])
  (hwl:WellAll w.params s₁.heap vals ds) (hpl:plWs ds=true) (hwt:∀d∈ds,d.weight<=1048576) (hr:Room k callerA)
  (F:∀base:Heap,K.In base->base.Ns mainGlobals mg->FnOk P w K mg base CX k fa fd ps sp) (hbind:∀(s:Shared) (us:List Value),us.length=ps.length->BindsTo s fd ⟨us,[]⟩ (ps.zip us)) (hlen:ds.length=ps.length)
  (hsp:∀(H:Hp) (xs:List V),OnlyF H->DwAll K H xs ds->sp xs H (fun v H'=>Dw K H' v d0) fun _ _ _=>False)
  (hCX:∀H e s',CX [] H s₁ (fun _ _ _=>False) e s'->False):
  codeAny (model P w) callerA (.call (.ref fa) ⟨vals,[]⟩) (fun r s'=>∃u as,r=.ok (.ret u)/\ReadsW R cl s'.heap u d0 as/\OldK s₁.heap s'.heap/\s'.os=s₁.os/\AllBare s'.gens) s₁:=by
 obtain ⟨A,ho,ar⟩:=area_all ds vals hwl hpl hwt
 have hO:OnlyF (argH K s₁.heap A):=argH_only ar
 have hok:HOk P w (argH K s₁.heap A) s₁.heap:=argH_ok ar
 have hS:=dw_all KX ar ds vals hwl hpl ho
 have hV:=vals_toV ho
 have hK:∀b u,argH K s₁.heap A b=some u->K.lookup b=none:=fun b u q=>(argH_is ar q).1
 have noA:∀{b:Addr} {o:Obj} {es:Array DictEntry} {ep:Nat},s₁.heap.get? b=some o->o.data=.dict es ep->argH K s₁.heap A b=none:=fun {b o es ep} e d=>by
  cases q:argH K s₁.heap A b with
  |none=>rfl
  |some u=>
   obtain ⟨_,vs,_,_,⟨e2,_⟩|⟨e2,_⟩⟩:=argH_is ar q
   ·rw [e2] at e
    cases e
    have d':Data.seq vs.toArray _=Data.dict es ep:=d
    cases d'
   ·rw [e2] at e
    cases e
    have d':Data.seq vs.toArray _=Data.dict es ep:=d
    cases d'
 generalize argH K s₁.heap A=H at hO hok hS hK noA
 have base_of:∀{b:Addr} {o:Obj},s₁.heap.get? b=some o->H b=none->(hidT s₁.heap H).get? b=some o:=fun e n=>hidT_get e n
 have nsK:∀{b:Addr} {m:Str->Option Value},s₁.heap.Ns b m->(hidT s₁.heap H).Ns b m:=fun {b m} ⟨o,es,ep,e,d,r⟩=>⟨o,es,ep,base_of e (noA e d),d,r⟩
 have nK:∀b o,K.lookup b=some o->H b=none:=fun b o e=>by
  cases q:H b with
  |none=>rfl
  |some u=>
   rw [hK b u q] at e
   cases e
 have hKb:K.In (hidT s₁.heap H):=fun b o e=>base_of (KX b o e) (nK b o e)
 have hM:Mod K mg (hidT s₁.heap H):=⟨hKb,nsK hns,⟨mb,nsK hb,hbb⟩,let ⟨mc,h1,h2⟩:=hlim;⟨mc,nsK h1,h2⟩⟩
 have e0:Env0 P w K mg (hidT s₁.heap H) callerA [] s₁ H:=⟨rfl,hM,fun b o e=>of_hidT e,Nat.le_of_eq (hidT_size _ _),trivial,fun b hb=>absurd (show b∈([]:List Addr) from hb) (by simp),hok,.of_eq hg⟩
 have hl:vals.length=ps.length:=by rw [wellAll_len hwl];exact hlen
 refine codeAny_mono ((F _ hKb (nsK hns)).run callerA [] s₁ H ⟨vals,[]⟩ vals (vals.map toV) _ _ hr e0 (hbind s₁ vals hl) hV (hsp H _ hO hS)) fun r s' x=>?_
 cases r with
 |error e=>exact (hCX H e s' x).elim
 |ok fl=>
  cases fl with
  |next=>exact False.elim x
  |brk=>exact False.elim x
  |cont=>exact False.elim x
  |ret u=>
   obtain ⟨v,H',os,bare,un,hok',r',q⟩:=x
   have kept:∀b o,s₁.heap.get? b=some o->s'.heap.get? b=some o:=fun b o e=>by
    cases q2:H b with
    |none=>exact un.keep b o e q2 (by intro z;exact absurd (show b∈([]:List Addr) from z) (by simp)) (by simp)
    |some u2=>
     rcases hO b with z|⟨ob,u3,z⟩
     ·rw [q2] at z
      cases z
     ·have z2:=un.frzs b ob _ z
      obtain ⟨e1,_⟩:=hok b _ z
      obtain ⟨e2,_⟩:=hok' b _ z2
      rw [e] at e1
      cases e1
      exact e2
   have KX':K.In s'.heap:=fun b o e=>kept b o (KX b o e)
   obtain ⟨as,hrd⟩:=Dw.reads (R:=R) (cl:=cl) hok' KX' d0 v u q r'
   exact ⟨u,as,rfl,hrd,OldK.of_keep kept,os,bare⟩
theorem layable_weight {ds:List WData} (h:WData.layableAll ds=true):∀d∈ds,d.weight<=1048576:=fun d hd=>
 (PySem.W.layableW_iff.mp (List.all_eq_true.mp h d hd)).2.2
theorem encAll_len:∀(cs:List Codec) (a:Codec.denoteAll cs),(Codec.encAll cs a).length=cs.length
 |[],_=>rfl
 |c::cs,a=>by
  show (Codec.encAll cs a.2).length+1=cs.length+1
  rw [encAll_len cs a.2]
theorem walk_spec {r:OpenSpec} {k:Nat} {q:Program} {loose:List Str} {XP:(Str->Option Value)->Heap->Prop} {YP:World->Heap->Prop} {d:DefRec} {K:Params->W.Frag} {CX:World->CXT} {ps:List Str} {sp:World->Sp}
  (hwell:r.wellSaid=true) (hdf:d.params.defaults=[]) (hlen:r.args.length=ps.length) (hr:Room k callerA)
  (hY:∀(w:World) (h:Heap),YP w h->(K w.params).In h)
  (F:∀(w:World) (mg:Str->Option Value) (fa:Addr) (h:Heap),YP w h->(K w.params).In h->h.Ns mainGlobals mg->mg d.name=some (.ref fa)->
   ∃fd:FuncData,(∀(s:Shared) (us:List Value),us.length=ps.length->BindsTo s fd ⟨us,[]⟩ (ps.zip us))/\
    ∀base:Heap,(K w.params).In base->base.Ns mainGlobals mg->FnOk r.prog w (K w.params) mg base (CX w) k fa fd ps (sp w))
  (hsp:∀(w:World) (H:Hp) (xs:List V) (a:Codec.denoteAll r.args),OnlyF H->Codec.withinAll r.args a=true->Codec.app r.args r.asked a=true->DwAll (K w.params) H xs (Codec.encAll r.args a)->
   sp w xs H (fun v H'=>Dw (K w.params) H' v (r.ret.enc (Codec.app r.args r.f a))) fun _ _ _=>False)
  (hCX:∀(w:World) (H:Hp) (s:Shared) (e:Value) (s':Shared),CX w [] H s (fun _ _ _=>False) e s'->False):
  PySem.W.WalkOS q loose XP YP r d [] (fun f vs=>PySem.call f vs):=by
 intro w s_0 s₁ mg mb G Y fa o pm cd doc dV kV ho hd hcd hD hmg hg args vals as hpre hlay hrd hwl hlo
 obtain ⟨a,e1,e2⟩:=PySem.W.os_pre_some hpre
 obtain ⟨e3,hwi⟩:=Codec.encAll_of_decAll r.args args a e1
 subst e3
 have KX:=hY w _ Y
 obtain ⟨fd,hb,hF⟩:=F w mg fa _ Y KX G.T.g hmg
 refine PySem.W.enter_call (codeAny_mono (spec_call (R:=[]) (cl:=classAt s_0.heap) (d0:=r.ret.enc (Codec.app r.args r.f a)) KX G.T.g G.T.b G.T.builtins G.T.nolimit hg hwl (pl_encAll _ _) (layable_weight hlay) hr hF hb (by rw [encAll_len];exact hlen)
  (fun H xs hO hS=>hsp w H xs a hO hwi e2 hS) fun H e s'=>hCX w H s₁ e s') fun r' s' hq=>?_)
 obtain ⟨u,as',rfl,h1,h2,h3,h4⟩:=hq
 exact ⟨.inl ⟨u,_,as',rfl,fun _=>rfl,h1,(OpenSpec.post_iff hwell hwi _ _).mpr rfl,fun z=>Bool.noConfusion (show false=true from z)⟩,h2,h3,h4⟩
theorem walk_specK {r:OpenSpec} {k:Nat} {q:Program} {loose:List Str} {XP:(Str->Option Value)->Heap->Prop} {YP:World->Heap->Prop} {d:DefRec} {K:Params->W.Frag} {CX:CXT} {ps:List Str} {sp:W.Frag->Sp}
  (hwell:r.wellSaid=true) (hdf:d.params.defaults=[]) (hlen:r.args.length=ps.length) (hr:Room k callerA)
  (hY:∀(w:World) (h:Heap),YP w h->(K w.params).In h)
  (F:∀(w:World) (mg:Str->Option Value) (fa:Addr) (h:Heap),YP w h->(K w.params).In h->h.Ns mainGlobals mg->mg d.name=some (.ref fa)->
   ∃fd:FuncData,(∀(s:Shared) (us:List Value),us.length=ps.length->BindsTo s fd ⟨us,[]⟩ (ps.zip us))/\
    ∀base:Heap,(K w.params).In base->base.Ns mainGlobals mg->FnOk r.prog w (K w.params) mg base CX k fa fd ps (sp (K w.params)))
  (hsp:∀(K:W.Frag) (H:Hp) (xs:List V) (a:Codec.denoteAll r.args),OnlyF H->Codec.withinAll r.args a=true->Codec.app r.args r.asked a=true->DwAll K H xs (Codec.encAll r.args a)->
   sp K xs H (fun v H'=>Dw K H' v (r.ret.enc (Codec.app r.args r.f a))) fun _ _ _=>False)
  (hCX:∀(H:Hp) (s:Shared) (e:Value) (s':Shared),CX [] H s (fun _ _ _=>False) e s'->False):
  PySem.W.WalkOS q loose XP YP r d [] (fun f vs=>PySem.call f vs):=
 walk_spec (K:=K) (CX:=fun _=>CX) (sp:=fun w=>sp (K w.params)) hwell hdf hlen hr hY F (fun w H xs a h1 h2 h3 h4=>hsp (K w.params) H xs a h1 h2 h3 h4) fun _ H s e s'=>hCX H s e s'
end L2
namespace HM
open Hush
theorem ofBytes_cons (c:UInt8) (b:Bytes):ofBytes (c::b)=c.toNat+256*ofBytes b:=rfl
theorem ofBytes_lt:∀b:Bytes,ofBytes b < 256 ^ b.length
 |[]=>by decide
 |c::b=>by
  have h:=ofBytes_lt b
  have hc:c.toNat < 256:=c.toNat_lt
  rw [ofBytes_cons,List.length_cons,Nat.pow_succ]
  omega
theorem length_toBytes:∀k n,(toBytes k n).length=k
 |0,_=>rfl
 |k+1,n=>by show (toBytes k (n / 256)).length+1=k+1;rw [length_toBytes k]
theorem toBytes_ofBytes:∀b:Bytes,toBytes b.length (ofBytes b)=b
 |[]=>rfl
 |c::b=>by
  have hc:c.toNat < 256:=c.toNat_lt
  show UInt8.ofNat ((c.toNat+256*ofBytes b) % 256)::toBytes b.length ((c.toNat+256*ofBytes b) / 256)=c::b
  have e1:(c.toNat+256*ofBytes b) % 256=c.toNat:=by omega
  have e2:(c.toNat+256*ofBytes b) / 256=ofBytes b:=by omega
  rw [e1,e2,toBytes_ofBytes b,UInt8.ofNat_toNat]
theorem ofBytes_toBytes:∀k n,ofBytes (toBytes k n)=n % 256 ^ k
 |0,n=>by rw [Nat.pow_zero,Nat.mod_one];rfl
 |k+1,n=>by
  show (UInt8.ofNat (n % 256)).toNat+256*ofBytes (toBytes k (n / 256))=n % 256 ^ (k+1)
  have e:256 ^ (k+1)=256*256 ^ k:=by rw [Nat.pow_succ,Nat.mul_comm]
  rw [ofBytes_toBytes k,UInt8.toNat_ofNat',e,Nat.mod_mul]
  omega
theorem xor_split (a b n m:Nat) (ha:a < 256) (hb:b < 256):(a+256*n) ^^^ (b+256*m)=(a ^^^ b)+256*(n ^^^ m):=by
 have hx:a ^^^ b < 2 ^ 8:=Nat.xor_lt_two_pow (by omega) (by omega)
 apply Nat.eq_of_testBit_eq
 intro i
 rw [Nat.testBit_xor,Nat.add_comm a,Nat.add_comm b,Nat.add_comm (a ^^^ b)]
 have h1:=Nat.testBit_two_pow_mul_add (i:=8) n (b:=a) (by omega) i
 have h2:=Nat.testBit_two_pow_mul_add (i:=8) m (b:=b) (by omega) i
 have h3:=Nat.testBit_two_pow_mul_add (i:=8) (n ^^^ m) (b:=a ^^^ b) hx i
 rw [show (256:Nat)=2 ^ 8 from rfl,h1,h2,h3]
 split
 ·rw [Nat.testBit_xor]
 ·rw [Nat.testBit_xor]
theorem ofBytes_add:∀a b:Bytes,a.length=b.length->ofBytes (add a b)=ofBytes a ^^^ ofBytes b
 |[],[],_=>rfl
 |[],_::_,h=>by cases h
 |_::_,[],h=>by cases h
 |x::a,y::b,h=>by
  show (x ^^^ y).toNat+256*ofBytes (add a b)=_
  rw [ofBytes_add a b (by simpa using h),ofBytes_cons,ofBytes_cons,xor_split _ _ _ _ x.toNat_lt y.toNat_lt,UInt8.toNat_xor]
theorem length_add (a b:Bytes) (h:a.length=b.length):(add a b).length=b.length:=by
 unfold add
 rw [List.length_zipWith,h,Nat.min_self]
theorem ofBytes_inj {a b:Bytes} (h:a.length=b.length) (e:ofBytes a=ofBytes b):a=b:=by
 rw [<-toBytes_ofBytes a,<-toBytes_ofBytes b,h,e]
theorem ofBytes_none16:ofBytes none16=0:=by decide
theorem toBytes_zero:toBytes 16 0=none16:=by decide
theorem length_none16:none16.length=16:=rfl
theorem length_when (c:Bool) {d:Bytes} (h:d.length=16):(when_ c d).length=16:=by
 cases c
 ·rfl
 ·exact h
theorem ofBytes_when (c:Bool) (d:Bytes):ofBytes (when_ c d)=c.toNat*ofBytes d:=by
 cases c
 ·show ofBytes none16=0*_;rw [ofBytes_none16,Nat.zero_mul]
 ·show ofBytes d=1*_;rw [Nat.one_mul]
theorem colour_eq:∀b:Bytes,(colour b).toNat=ofBytes b % 2
 |[]=>rfl
 |c::b=>by
  show (c.toNat % 2 == 1).toNat=(c.toNat+256*ofBytes b) % 2
  rcases Nat.mod_two_eq_zero_or_one c.toNat with h|h
  ·rw [h];show 0=_;omega
  ·rw [h];show 1=_;omega
theorem length_twice (x:Bytes):(twice x).length=16:=length_toBytes _ _
theorem length_tweak (n:Nat):(tweak n).length=16:=length_toBytes _ _
theorem lt128 {b:Bytes} (h:b.length=16):ofBytes b < 2 ^ 128:=by
 have:=ofBytes_lt b
 rw [h] at this
 exact this
theorem ofBytes_twice {x:Bytes} (h:x.length=16):ofBytes (twice x)=if 2*ofBytes x < 2 ^ 128 then 2*ofBytes x else (2*ofBytes x - 2 ^ 128) ^^^ 135:=by
 have hx:=lt128 h
 unfold twice
 rw [ofBytes_toBytes]
 by_cases c:ofBytes x < 2 ^ 127
 ·rw [if_pos c,if_pos (by omega)]
  exact Nat.mod_eq_of_lt (by show _ < 2 ^ 128;omega)
 ·rw [if_neg c,if_neg (by omega)]
  exact Nat.mod_eq_of_lt (Nat.xor_lt_two_pow (n:=128) (by omega) (by decide))
theorem ofBytes_tweak (n:Nat):ofBytes (tweak n)=n % 2 ^ 64:=by
 unfold tweak
 rw [ofBytes_toBytes]
 exact Nat.mod_eq_of_lt (by show _ < 2 ^ 128;omega)
theorem toBytes16 {b:Bytes} (h:b.length=16):toBytes 16 (ofBytes b)=b:=by
 have:=toBytes_ofBytes b
 rw [h] at this
 exact this
theorem toBytes_get:∀(k n i:Nat),i < k->(toBytes k n)[i]?=some (UInt8.ofNat (n / 256 ^ i % 256))
 |0,_,_,h=>absurd h (Nat.not_lt_zero _)
 |k+1,n,0,_=>by show some _=some _;rw [Nat.pow_zero,Nat.div_one]
 |k+1,n,i+1,h=>by
  show (toBytes k (n / 256))[i]?=_
  rw [toBytes_get k _ i (by omega),Nat.div_div_eq_div_mul,Nat.pow_succ,Nat.mul_comm (256 ^ i) 256]
end HM
namespace HM
open Hush
theorem len16 {α:Type} {l:List α} (h:l.length=16):∃x0 x1 x2 x3 x4 x5 x6 x7 x8 x9 x10 x11 x12 x13 x14 x15,l=[x0,x1,x2,x3,x4,x5,x6,x7,x8,x9,x10,x11,x12,x13,x14,x15]:=by
 match l,h with
 |[x0,x1,x2,x3,x4,x5,x6,x7,x8,x9,x10,x11,x12,x13,x14,x15],_=>exact ⟨x0,x1,x2,x3,x4,x5,x6,x7,x8,x9,x10,x11,x12,x13,x14,x15,rfl⟩
def tw (k:Bytes) (c:UInt8):Bytes:=[sub (k.getD 13 0) ^^^ c,sub (k.getD 14 0),sub (k.getD 15 0),sub (k.getD 12 0)]
def nk0 (k:Bytes) (c:UInt8):Bytes:=add (k.take 4) (tw k c)
def nk1 (k:Bytes) (c:UInt8):Bytes:=add ((k.drop 4).take 4) (nk0 k c)
def nk2 (k:Bytes) (c:UInt8):Bytes:=add ((k.drop 8).take 4) (nk1 k c)
def nk3 (k:Bytes) (c:UInt8):Bytes:=add ((k.drop 12).take 4) (nk2 k c)
def nextKey (k:Bytes) (c:UInt8):Bytes:=nk0 k c++(nk1 k c++(nk2 k c++nk3 k c))
def keyR (k:Bytes):Nat->Bytes
 |0=>k
 |r+1=>nextKey (keyR k r) (rcon r)
theorem length_nextKey {k:Bytes} {c:UInt8} (h:k.length=16):(nextKey k c).length=16:=by
 obtain ⟨x0,x1,x2,x3,x4,x5,x6,x7,x8,x9,x10,x11,x12,x13,x14,x15,rfl⟩:=len16 h
 rfl
theorem length_keyR {k:Bytes} (h:k.length=16):∀r,(keyR k r).length=16
 |0=>h
 |r+1=>length_nextKey (length_keyR h r)
theorem nextKey_get {k:Bytes} {c:UInt8} (h:k.length=16) {i:Nat} (hi:i < 16):
  (nextKey k c)[i]?=some (k.getD i 0 ^^^ (if i < 4 then (tw k c).getD i 0 else (nextKey k c).getD (i - 4) 0)):=by
 obtain ⟨x0,x1,x2,x3,x4,x5,x6,x7,x8,x9,x10,x11,x12,x13,x14,x15,rfl⟩:=len16 h
 match i,hi with
 |0,_=>rfl
 |1,_=>rfl
 |2,_=>rfl
 |3,_=>rfl
 |4,_=>rfl
 |5,_=>rfl
 |6,_=>rfl
 |7,_=>rfl
 |8,_=>rfl
 |9,_=>rfl
 |10,_=>rfl
 |11,_=>rfl
 |12,_=>rfl
 |13,_=>rfl
 |14,_=>rfl
 |15,_=>rfl
 |n+16,h=>exact absurd h (by omega)
def stepW (ws:List Bytes) (i:Nat):List Bytes:=ws++[add (ws.getD i []) (if i % 4=0 then core (ws.getD (i+3) []) (i / 4) else ws.getD (i+3) [])]
def initW (k:Bytes):List Bytes:=(List.range 4).map fun (i:Nat)=>(k.drop (4*i)).take 4
def sched (k:Bytes) (r:Nat):List Bytes:=(List.range (4*r)).foldl stepW (initW k)
theorem sched_schedule (k:Bytes):sched k 10=schedule k:=rfl
theorem getD_app_at {α:Type} (l:List α) (y:List α) (d:α) (j:Nat):(l++y).getD (l.length+j) d=y.getD j d:=by
 rw [List.getD_eq_getElem?_getD,List.getD_eq_getElem?_getD,List.getElem?_append_right (Nat.le_add_right _ _),Nat.add_sub_cancel_left]
theorem range_block (r:Nat):List.range (4*(r+1))=List.range (4*r)++[4*r,4*r+1,4*r+2,4*r+3]:=by
 rw [show 4*(r+1)=4*r+3+1 from by omega,List.range_succ,List.range_succ,List.range_succ,List.range_succ]
 simp only [List.append_assoc,List.cons_append,List.nil_append]
def wordsOf (k:Bytes):List Bytes:=[k.take 4,(k.drop 4).take 4,(k.drop 8).take 4,(k.drop 12).take 4]
theorem words_next {k:Bytes} {c:UInt8} (h:k.length=16):wordsOf (nextKey k c)=[nk0 k c,nk1 k c,nk2 k c,nk3 k c]:=by
 obtain ⟨x0,x1,x2,x3,x4,x5,x6,x7,x8,x9,x10,x11,x12,x13,x14,x15,rfl⟩:=len16 h
 rfl
theorem words_flat {k:Bytes} (h:k.length=16):(wordsOf k).flatten=k:=by
 obtain ⟨x0,x1,x2,x3,x4,x5,x6,x7,x8,x9,x10,x11,x12,x13,x14,x15,rfl⟩:=len16 h
 rfl
theorem core_tw {k:Bytes} {n:Nat} (h:k.length=16):core ((k.drop 12).take 4) n=tw k (rcon n):=by
 obtain ⟨x0,x1,x2,x3,x4,x5,x6,x7,x8,x9,x10,x11,x12,x13,x14,x15,rfl⟩:=len16 h
 rfl
theorem block {pre:List Bytes} {k:Bytes} {r:Nat} (hk:k.length=16) (hp:pre.length=4*r):
  [4*r,4*r+1,4*r+2,4*r+3].foldl stepW (pre++wordsOf k)=pre++wordsOf k++wordsOf (nextKey k (rcon r)):=by
 rw [words_next hk]
 simp only [List.foldl_cons,List.foldl_nil]
 have s0:stepW (pre++wordsOf k) (4*r)=pre++wordsOf k++[nk0 k (rcon r)]:=by
  unfold stepW
  have e0:=getD_app_at pre (wordsOf k) [] 0
  have e3:=getD_app_at pre (wordsOf k) [] 3
  rw [hp] at e0 e3
  rw [Nat.add_zero] at e0
  rw [if_pos (by omega),e0,e3,show 4*r / 4=r by omega]
  have:core ((wordsOf k).getD 3 []) r=tw k (rcon r):=core_tw hk
  rw [this]
  rfl
 have s1:stepW (pre++wordsOf k++[nk0 k (rcon r)]) (4*r+1)=pre++wordsOf k++[nk0 k (rcon r)]++[nk1 k (rcon r)]:=by
  unfold stepW
  have e0:=getD_app_at pre (wordsOf k++[nk0 k (rcon r)]) [] 1
  have e3:=getD_app_at pre (wordsOf k++[nk0 k (rcon r)]) [] 4
  rw [hp,<-List.append_assoc] at e0 e3
  rw [if_neg (by omega),e0,show 4*r+1+3=4*r+4 by omega,e3]
  rfl
 have s2:stepW (pre++wordsOf k++[nk0 k (rcon r)]++[nk1 k (rcon r)]) (4*r+2)=pre++wordsOf k++[nk0 k (rcon r)]++[nk1 k (rcon r)]++[nk2 k (rcon r)]:=by
  unfold stepW
  have e0:=getD_app_at pre (wordsOf k++[nk0 k (rcon r)]++[nk1 k (rcon r)]) [] 2
  have e3:=getD_app_at pre (wordsOf k++[nk0 k (rcon r)]++[nk1 k (rcon r)]) [] 5
  rw [hp,<-List.append_assoc,<-List.append_assoc] at e0 e3
  rw [if_neg (by omega),e0,show 4*r+2+3=4*r+5 by omega,e3]
  rfl
 have s3:stepW (pre++wordsOf k++[nk0 k (rcon r)]++[nk1 k (rcon r)]++[nk2 k (rcon r)]) (4*r+3)=pre++wordsOf k++[nk0 k (rcon r)]++[nk1 k (rcon r)]++[nk2 k (rcon r)]++[nk3 k (rcon r)]:=by
  unfold stepW
  have e0:=getD_app_at pre (wordsOf k++[nk0 k (rcon r)]++[nk1 k (rcon r)]++[nk2 k (rcon r)]) [] 3
  have e3:=getD_app_at pre (wordsOf k++[nk0 k (rcon r)]++[nk1 k (rcon r)]++[nk2 k (rcon r)]) [] 6
  rw [hp,<-List.append_assoc,<-List.append_assoc,<-List.append_assoc] at e0 e3
  rw [if_neg (by omega),e0,show 4*r+3+3=4*r+6 by omega,e3]
  rfl
 rw [s0,s1,s2,s3]
 simp only [List.append_assoc,List.singleton_append,List.cons_append,List.nil_append]
theorem sched_eq {k:Bytes} (hk:k.length=16):∀r,sched k r=(List.range (r+1)).flatMap fun i=>wordsOf (keyR k i)
 |0=>by
  obtain ⟨x0,x1,x2,x3,x4,x5,x6,x7,x8,x9,x10,x11,x12,x13,x14,x15,rfl⟩:=len16 hk
  rfl
 |r+1=>by
  have ih:=sched_eq hk r
  have e:sched k (r+1)=[4*r,4*r+1,4*r+2,4*r+3].foldl stepW (sched k r):=by
   unfold sched
   rw [range_block,List.foldl_append]
  have hl:∀n,((List.range n).flatMap fun i=>wordsOf (keyR k i)).length=4*n:=by
   intro n
   induction n with
   |zero=>rfl
   |succ n ih=>rw [List.range_succ,List.flatMap_append,List.length_append,ih];show 4*n+4=_;omega
  have s:∀n,((List.range (n+1)).flatMap fun i=>wordsOf (keyR k i))=((List.range n).flatMap fun i=>wordsOf (keyR k i))++wordsOf (keyR k n):=by
   intro n
   rw [List.range_succ,List.flatMap_append]
   simp
  rw [e,ih,s r,block (length_keyR hk r) (hl r),s (r+1),s r]
  rfl
theorem flat_get (g:Nat->List Bytes) (hg:∀i,(g i).length=4):∀(n r:Nat),r < n->((((List.range n).flatMap g).drop (4*r)).take 4)=g r
 |0,_,h=>absurd h (Nat.not_lt_zero _)
 |n+1,r,h=>by
  have hl:∀n,((List.range n).flatMap g).length=4*n:=by
   intro n
   induction n with
   |zero=>rfl
   |succ n ih=>rw [List.range_succ,List.flatMap_append,List.length_append,ih];simp [hg];omega
  rw [List.range_succ,List.flatMap_append,List.drop_append]
  by_cases c:r < n
  ·have ih:=flat_get g hg n r c
   have hd:(((List.range n).flatMap g).drop (4*r)).length=4*n - 4*r:=by rw [List.length_drop,hl]
   rw [List.take_append_of_le_length (by rw [hd];omega)]
   exact ih
  ·have e:r=n:=by omega
   subst e
   have h0:((List.range r).flatMap g).drop (4*r)=[]:=List.drop_eq_nil_of_le (by rw [hl];exact Nat.le_refl _)
   rw [h0,hl,Nat.sub_self,List.nil_append]
   simp only [List.flatMap_cons,List.flatMap_nil,List.append_nil,List.drop_zero]
   exact List.take_of_length_le (by rw [hg];exact Nat.le_refl _)
theorem roundKey_eq {k:Bytes} (hk:k.length=16) {r:Nat} (hr:r<=10):roundKey (schedule k) r=keyR k r:=by
 unfold roundKey
 rw [<-sched_schedule,sched_eq hk 10,flat_get (fun i=>wordsOf (keyR k i)) (fun _=>rfl) 11 r (by omega)]
 exact words_flat (length_keyR hk r)
theorem length_shiftRows (s:Bytes):(shiftRows s).length=16:=by unfold shiftRows;simp
theorem length_mixColumns (s:Bytes):(mixColumns s).length=16:=rfl
def shifted:List Nat:=[0,5,10,15,4,9,14,3,8,13,2,7,12,1,6,11]
theorem subShift_eq {s:Bytes} (h:s.length=16):shiftRows (s.map sub)=shifted.map fun i=>sub (s.getD i 0):=by
 obtain ⟨x0,x1,x2,x3,x4,x5,x6,x7,x8,x9,x10,x11,x12,x13,x14,x15,rfl⟩:=len16 h
 rfl
def mixC (p q r s:UInt8):Bytes:=[p ^^^ (p ^^^ q ^^^ r ^^^ s) ^^^ xtime (p ^^^ q),q ^^^ (p ^^^ q ^^^ r ^^^ s) ^^^ xtime (q ^^^ r),r ^^^ (p ^^^ q ^^^ r ^^^ s) ^^^ xtime (r ^^^ s),s ^^^ (p ^^^ q ^^^ r ^^^ s) ^^^ xtime (s ^^^ p)]
def round (k:Bytes) (s:Bytes) (r:Nat):Bytes:=add (mixColumns (shiftRows (s.map sub))) (keyR k (r+1))
def stateR (k x:Bytes):Nat->Bytes
 |0=>add x k
 |r+1=>round k (stateR k x r) r
theorem length_stateR {k x:Bytes} (hk:k.length=16) (hx:x.length=16):∀r,(stateR k x r).length=16
 |0=>by show (add x k).length=16;rw [length_add _ _ (hx.trans hk.symm),hk]
 |r+1=>by
  show (add (mixColumns _) _).length=16
  rw [length_add _ _ ((length_mixColumns _).trans (length_keyR hk _).symm),length_keyR hk]
theorem fold_stateR {k x:Bytes} {ws:List Bytes} (hw:∀r,r<=10->roundKey ws r=keyR k r):∀n,n<=9->(List.range n).foldl (fun (s:Bytes) (r:Nat)=>add (mixColumns (shiftRows (s.map sub))) (roundKey ws (r+1))) (add x (roundKey ws 0))=stateR k x n
 |0,_=>by
  show add x (roundKey ws 0)=add x k
  rw [hw 0 (by omega)]
  rfl
 |n+1,h=>by
  rw [List.range_succ,List.foldl_append,fold_stateR hw n (by omega)]
  show add _ (roundKey ws (n+1))=_
  rw [hw (n+1) (by omega)]
  rfl
theorem aes_eq {k x:Bytes} (hk:k.length=16):aes k x=add (shiftRows ((stateR k x 9).map sub)) (keyR k 10):=by
 have hw:∀r,r<=10->roundKey (schedule k) r=keyR k r:=fun r hr=>roundKey_eq hk hr
 unfold aes
 dsimp only
 generalize schedule k=ws at hw ⊢
 rw [hw 10 (by omega),fold_stateR hw 9 (by omega)]
theorem length_aes {k x:Bytes} (hk:k.length=16):(aes k x).length=16:=by
 rw [aes_eq hk,length_add _ _ ((length_shiftRows _).trans (length_keyR hk _).symm),length_keyR hk]
theorem length_mix {k x t:Bytes} (hk:k.length=16) (ht:t.length=16):(mix k x t).length=16:=by
 unfold mix
 have h1:(add (twice x) t).length=16:=by rw [length_add _ _ ((length_twice x).trans ht.symm),ht]
 rw [length_add _ _ ((length_aes hk).trans h1.symm),h1]
end HM
namespace HM
open Hush
theorem all256 {p:UInt8->Bool} (h:(List.range 256).all (fun n=>p (UInt8.ofNat n))=true) (x:UInt8):p x=true:=by
 have:=List.all_eq_true.mp h x.toNat (List.mem_range.mpr x.toNat_lt)
 rw [UInt8.ofNat_toNat] at this
 exact this
theorem xtime_form (x:UInt8):xtime x=(x <<< 1) ^^^ ((x >>> 7)*27):=by
 have h:=all256 (p:=fun x=>decide (xtime x=(x <<< 1) ^^^ ((x >>> 7)*27))) (by decide+kernel) x
 exact of_decide_eq_true h
theorem top_bit (x:UInt8):x >>> 7=0\/x >>> 7=1:=by
 have h:=all256 (p:=fun x=>decide (x >>> 7=0\/x >>> 7=1)) (by decide+kernel) x
 exact of_decide_eq_true h
theorem xlc (a b c:UInt8):a ^^^ (b ^^^ c)=b ^^^ (a ^^^ c):=by rw [<-UInt8.xor_assoc,UInt8.xor_comm a b,UInt8.xor_assoc]
theorem xcc (a b:UInt8):a ^^^ (a ^^^ b)=b:=by rw [<-UInt8.xor_assoc,UInt8.xor_self,UInt8.zero_xor]
theorem xtime_xor (p q:UInt8):xtime (p ^^^ q)=xtime p ^^^ xtime q:=by
 have e1:(p ^^^ q) <<< 1=(p <<< 1) ^^^ (q <<< 1):=by
  apply UInt8.toBitVec_inj.mp
  simp [UInt8.toBitVec_xor,UInt8.toBitVec_shiftLeft,BitVec.shiftLeft_xor_distrib]
 have e2:(p ^^^ q) >>> 7=(p >>> 7) ^^^ (q >>> 7):=by
  apply UInt8.toBitVec_inj.mp
  simp [UInt8.toBitVec_xor,UInt8.toBitVec_shiftRight,BitVec.ushiftRight_xor_distrib]
 rw [xtime_form,xtime_form p,xtime_form q,e1,e2]
 have e3:∀u v:UInt8,(u=0\/u=1)->(v=0\/v=1)->(u ^^^ v)*(27:UInt8)=(u*27) ^^^ (v*27):=by
  intro u v hu hv
  rcases hu with a|a <;> rcases hv with b|b <;> rw [a,b] <;> decide
 rw [e3 _ _ (top_bit p) (top_bit q)]
 simp only [UInt8.xor_assoc,UInt8.xor_comm,xlc]
theorem mixColumn_eq (p q r s:UInt8):mixColumn [p,q,r,s]=mixC p q r s:=by
 show [xtime p ^^^ xtime q ^^^ q ^^^ r ^^^ s,xtime q ^^^ xtime r ^^^ r ^^^ s ^^^ p,xtime r ^^^ xtime s ^^^ s ^^^ p ^^^ q,xtime s ^^^ xtime p ^^^ p ^^^ q ^^^ r]=mixC p q r s
 unfold mixC
 rw [xtime_xor,xtime_xor,xtime_xor,xtime_xor]
 have n1:xtime p ^^^ xtime q ^^^ q ^^^ r ^^^ s=p ^^^ (p ^^^ q ^^^ r ^^^ s) ^^^ (xtime p ^^^ xtime q):=by
  rw [show p ^^^ (p ^^^ q ^^^ r ^^^ s)=q ^^^ r ^^^ s from by simp only [UInt8.xor_assoc,xcc]]
  simp only [UInt8.xor_assoc,UInt8.xor_comm,xlc]
 have n2:xtime q ^^^ xtime r ^^^ r ^^^ s ^^^ p=q ^^^ (p ^^^ q ^^^ r ^^^ s) ^^^ (xtime q ^^^ xtime r):=by
  rw [show q ^^^ (p ^^^ q ^^^ r ^^^ s)=r ^^^ s ^^^ p from by simp only [UInt8.xor_assoc,xcc,UInt8.xor_comm,xlc]]
  simp only [UInt8.xor_assoc,UInt8.xor_comm,xlc]
 have n3:xtime r ^^^ xtime s ^^^ s ^^^ p ^^^ q=r ^^^ (p ^^^ q ^^^ r ^^^ s) ^^^ (xtime r ^^^ xtime s):=by
  rw [show r ^^^ (p ^^^ q ^^^ r ^^^ s)=s ^^^ p ^^^ q from by simp only [UInt8.xor_assoc,xcc,UInt8.xor_comm,xlc]]
  simp only [UInt8.xor_assoc,UInt8.xor_comm,xlc]
 have n4:xtime s ^^^ xtime p ^^^ p ^^^ q ^^^ r=s ^^^ (p ^^^ q ^^^ r ^^^ s) ^^^ (xtime s ^^^ xtime p):=by
  rw [show s ^^^ (p ^^^ q ^^^ r ^^^ s)=p ^^^ q ^^^ r from by simp only [UInt8.xor_assoc,xcc,UInt8.xor_comm,xlc,UInt8.xor_self,UInt8.xor_zero]]
  simp only [UInt8.xor_assoc,UInt8.xor_comm,xlc]
 rw [n1,n2,n3,n4]
def colR (s:Bytes) (j:Nat):Bytes:=mixC (s.getD (4*j) 0) (s.getD (4*j+1) 0) (s.getD (4*j+2) 0) (s.getD (4*j+3) 0)
theorem mixColumns_eq {s:Bytes} (h:s.length=16):mixColumns s=(List.range 4).flatMap (colR s):=by
 obtain ⟨x0,x1,x2,x3,x4,x5,x6,x7,x8,x9,x10,x11,x12,x13,x14,x15,rfl⟩:=len16 h
 show mixColumn [x0,x1,x2,x3]++(mixColumn [x4,x5,x6,x7]++(mixColumn [x8,x9,x10,x11]++(mixColumn [x12,x13,x14,x15]++[])))=_
 rw [mixColumn_eq,mixColumn_eq,mixColumn_eq,mixColumn_eq]
 rfl
end HM
namespace HM
noncomputable def sboxT:List Nat:=[99,124,119,123,242,107,111,197,48,1,103,43,254,215,171,118,202,130,201,125,250,89,71,240,173,212,162,175,156,164,114,192,183,253,147,38,54,63,247,204,52,165,229,241,113,216,49,21,4,199,35,195,24,150,5,154,7,18,128,226,235,39,178,117,9,131,44,26,27,110,90,160,82,59,214,179,41,227,47,132,83,209,0,237,32,252,177,91,106,203,190,57,74,76,88,207,208,239,170,251,67,77,51,133,69,249,2,127,80,60,159,168,81,163,64,143,146,157,56,245,188,182,218,33,16,255,243,210,205,12,19,236,95,151,68,23,196,167,126,61,100,93,25,115,96,129,79,220,34,42,144,136,70,238,184,20,222,94,11,219,224,50,58,10,73,6,36,92,194,211,172,98,145,149,228,121,231,200,55,109,141,213,78,169,108,86,244,234,101,122,174,8,186,120,37,46,28,166,180,198,232,221,116,31,75,189,139,138,112,62,181,102,72,3,246,14,97,53,87,185,134,193,29,158,225,248,152,17,105,217,142,148,155,30,135,233,206,85,40,223,140,161,137,13,191,230,66,104,65,153,45,15,176,84,187,22]
noncomputable def dblT:List Nat:=[0,2,4,6,8,10,12,14,16,18,20,22,24,26,28,30,32,34,36,38,40,42,44,46,48,50,52,54,56,58,60,62,64,66,68,70,72,74,76,78,80,82,84,86,88,90,92,94,96,98,100,102,104,106,108,110,112,114,116,118,120,122,124,126,128,130,132,134,136,138,140,142,144,146,148,150,152,154,156,158,160,162,164,166,168,170,172,174,176,178,180,182,184,186,188,190,192,194,196,198,200,202,204,206,208,210,212,214,216,218,220,222,224,226,228,230,232,234,236,238,240,242,244,246,248,250,252,254,27,25,31,29,19,17,23,21,11,9,15,13,3,1,7,5,59,57,63,61,51,49,55,53,43,41,47,45,35,33,39,37,91,89,95,93,83,81,87,85,75,73,79,77,67,65,71,69,123,121,127,125,115,113,119,117,107,105,111,109,99,97,103,101,155,153,159,157,147,145,151,149,139,137,143,141,131,129,135,133,187,185,191,189,179,177,183,181,171,169,175,173,163,161,167,165,219,217,223,221,211,209,215,213,203,201,207,205,195,193,199,197,251,249,255,253,243,241,247,245,235,233,239,237,227,225,231,229]
theorem sbox_eq:Hush.SBOX.map UInt8.toNat=sboxT:=by decide+kernel
theorem dbl_eq:(List.range 256).map (fun n=>(Hush.xtime (UInt8.ofNat n)).toNat)=dblT:=by decide+kernel
theorem rcon_eq:(List.range 10).map (fun n=>(Hush.rcon n).toNat)=[1,2,4,8,16,32,64,128,27,54]:=by decide+kernel
end HM
namespace XD
open PySem
theorem dict_mapFields (o:Obj) (f:Array Value->Array Value):(o.mapFields f).dict=o.dict:=by
 unfold Obj.mapFields
 split <;> rfl
structure Up (h g:Heap):Prop where
 up:h.UpToSlots g
 there:∀b o,h.get? b=some o->∃o',g.get? b=some o'
theorem Up.refl (h:Heap):Up h h:=⟨Heap.UpToSlots.refl h,fun _ o e=>⟨o,e⟩⟩
theorem Up.trans {h1 h2 h3:Heap} (x:Up h1 h2) (y:Up h2 h3):Up h1 h3:=⟨x.up.trans y.up,fun b o e=>let ⟨_,e'⟩:=x.there b o e;y.there b _ e'⟩
structure NewD (B:Heap) (l:List Env) (e dx:Addr) (cls:Value) (h:Heap):Prop where
 stays:B.StaysIn h
 new:B.get? e=none
 fr:h.FunFrames B l
 ex:∃(oe:Obj) (vs:Array Value),h.get? e=some oe/\oe.cls=cls/\oe.dict=some dx/\oe.data=.fields vs/\vs[1]?=some .none
structure FlyD (B:Heap) (l:List Env) (e dx:Addr) (cls fl:Value) (h:Heap):Prop where
 stays:B.StaysIn h
 new:B.get? e=none
 fr:h.FunFrames B l
 ex:∃(oe:Obj) (vs:Array Value) (T:Addr) (oT:Obj) (ts:Array Value),h.get? e=some oe/\oe.cls=cls/\oe.dict=some dx/\oe.data=.fields vs/\vs[1]?=some (.ref T)/\
  B.get? T=none/\T≠e/\h.get? T=some oT/\oT.data=.fields ts/\ts[3]?=some fl
theorem FlyD.pop {B:Heap} {env:Env} {l:List Env} {e dx:Addr} {cls fl:Value} {h:Heap} (x:FlyD B (env::l) e dx cls fl h):FlyD B l e dx cls fl h:=
 ⟨x.stays,x.new,x.fr.2.2,x.ex⟩
section
variable {M:Model} {A:Around} {E:Value->Shared->Prop} {s:Shared} {B:Heap} {env:Env} {outer:List Env} {L e dx:Addr} {cls:Value} {Q:Unit->Shared->Prop}
theorem entryD {oe:Obj} {vs:Array Value} {head:Value} {hadNext:Bool} (hfr:A.frames=some (env::outer)) (hl:s.heap.FunFrames B (env::outer)) (hf:env.frame=some L)
  (he:s.heap.get? e=some oe) (hc:oe.cls=cls) (hdx:oe.dict=some dx) (hd:oe.data=.fields vs) (hz:1 < vs.size) (hB:B.StaysIn s.heap) (hn:B.get? e=none)
  (h:∀g,FlyD B (env::outer) e dx cls (rawInt L) g->Up s.heap g->Q () {s with heap:=g}):
  wpAny M A (do let a <-frameOf env;let pl <-entryPlaceOf L hadNext;let b <-EntryCells.newEntry head a .none (rawInt L) .none pl;setField (.ref e) 1 b) Q E s:=by
 have eout:e∉(env::outer).filterMap (·.frame):=fun m=>by
  obtain ⟨_,o,ho,no⟩:=hl.mem m
  rw [he] at ho
  cases ho
  exact no vs hd
 refine wpAny_bind (wpAny_frameOf_fun hfr hl hf fun g1 k1=>wpAny_bind (wpAny_entryPlaceOf fun pl hpl=>?_))
 unfold EntryCells.newEntry newFields
 refine wpAny_bind (wpAny_newObj_type ?_ (hpl.sizeOk5 _ _ _ _ _))
 generalize hob:({cls:=.type "traceback",dict:=none,data:=.fields ([head,.ref L,.none,rawInt L,.none]++(if pl.isEmpty then List.replicate 6 Value.none else pl)).toArray}:Obj)=ob
 have e1:g1.get? e=some oe:=(k1.2.1 e eout).trans he
 have b1:B.StaysIn g1:=fun b o q=>(k1.2.1 b fun m=>by rw [(hl.mem m).1] at q;cases q).trans (hB b o q)
 have ne:g1.objs.size≠e:=Nat.ne_of_gt (Heap.lt_size e1)
 have e2:(g1.push ob).get? e=some oe:=Heap.get?_push_of_some ob e1
 refine wpAny_setField e2 hd hz ?_
 have d3:=Obj.data_mapFields hd (·.setIfInBounds 1 (Value.ref g1.objs.size))
 have e3:=Heap.get?_update_self (Obj.mapFields (·.setIfInBounds 1 (Value.ref g1.objs.size))) e2 (Obj.isFreed_of_fields d3)
 have fob:ob.isFreed=false:=by rw [<-hob];rfl
 have t2:(g1.push ob).get? g1.objs.size=some ob:=Heap.get?_push_size g1 fob
 have t3:=(Heap.get?_update_other (g1.push ob) (Obj.mapFields (·.setIfInBounds 1 (Value.ref g1.objs.size))) (Ne.symm ne)).trans t2
 have oth:∀b o,b≠e->g1.get? b=some o->((g1.push ob).update e (Obj.mapFields (·.setIfInBounds 1 (Value.ref g1.objs.size)))).get? b=some o:=fun b o hbe q=>by
  rw [Heap.get?_update_other _ _ (Ne.symm hbe)]
  exact Heap.get?_push_of_some _ q
 have nrec:∀b o,s.heap.get? b=some o->(∀ws,o.data≠.fields ws)->b≠e:=fun b o q nf z=>by
  rw [z,he] at q
  cases q
  exact nf vs hd
 refine h _ ⟨fun b o q=>oth b o (fun z=>by rw [z,hn] at q;cases q) (b1 b o q),hn,hl.of_keeps fun b o q nf=>?_,?_⟩ ⟨fun b o q nf=>?_,fun b o q=>?_⟩
 ·obtain ⟨sl,z⟩:=k1.2.2 b o q
  exact ⟨_,oth b _ (nrec b o q nf) z,rfl⟩
 ·refine ⟨_,_,g1.objs.size,ob,_,e3,(Obj.cls_mapFields _ _).trans hc,(dict_mapFields _ _).trans hdx,d3,by simp [hz],b1.fresh,ne,t3,by rw [<-hob],?_⟩
  first
   |(simp;done)
   |(rcases hpl with rfl|⟨_,_,_,_,_,_,_,rfl⟩ <;> simp)
 ·obtain ⟨sl,z⟩:=k1.2.2 b o q
  exact ⟨sl,oth b _ (nrec b o q nf) z⟩
 ·obtain ⟨sl,z⟩:=k1.2.2 b o q
  by_cases hb:b=e
  ·rw [hb]
   exact ⟨_,e3⟩
  ·exact ⟨_,oth b _ hb z⟩
theorem flightD {l:List Env} {fl:Value} {fr:Option Addr} (x:FlyD B l e dx cls fl s.heap)
  (h:∀g,FlyD B l e dx cls (fr.elim .none fun f=>rawInt f) g->Up s.heap g->Q () {s with heap:=g}):wpAny M A (setFlight (.ref e) fr) Q E s:=by
 obtain ⟨oe,vs,T,oT,ts,he,hc,hdx,hd,h1,hT,hne,hoT,hdT,h3⟩:=x.ex
 have hz:3 < ts.size:=(Array.getElem?_eq_some_iff.mp h3).1
 unfold setFlight
 refine wpAny_bind (wpAny_field he hd h1 ?_)
 rw [if_pos (show (Value.ref T != Value.none)=true from by simp)]
 have oth:∀b,b≠T->(s.heap.update T (Obj.mapFields (·.setIfInBounds 3 (fr.elim Value.none fun f=>rawInt f)))).get? b=s.heap.get? b:=fun b hb=>Heap.get?_update_other _ _ (Ne.symm hb)
 have nrec:∀b o,s.heap.get? b=some o->(∀ws,o.data≠.fields ws)->b≠T:=fun b o q nf z=>by
  rw [z,hoT] at q
  cases q
  exact nf ts hdT
 refine wpAny_setField hoT hdT hz (h _ ⟨fun b o q=>(oth b fun z=>by rw [z,hT] at q;cases q).trans (x.stays b o q),x.new,x.fr.of_keeps fun b o q nf=>⟨o,(oth b (nrec b o q nf)).trans q,rfl⟩,?_⟩ ⟨fun b o q nf=>⟨o.slots,(oth b (nrec b o q nf)).trans q⟩,fun b o q=>?_⟩)
 rotate_left
 ·by_cases hb:b=T
  ·rw [hb]
   exact ⟨_,Heap.get?_update_self _ hoT (Obj.isFreed_of_fields (Obj.data_mapFields hdT _))⟩
  ·exact ⟨o,(oth b hb).trans q⟩
 exact ⟨oe,vs,T,_,_,(oth e (Ne.symm hne)).trans he,hc,hdx,hd,h1,hT,hne,Heap.get?_update_self _ hoT (Obj.isFreed_of_fields (Obj.data_mapFields hdT _)),Obj.data_mapFields hdT _,by simp [hz]⟩
theorem noteD {fl:Value} (hfr:A.frames=some (env::outer)) (hf:env.frame=some L) (x:FlyD B (env::outer) e dx cls fl s.heap)
  (h:∀g fl',FlyD B (env::outer) e dx cls fl' g->Up s.heap g->Q () {s with heap:=g}):wpAny M A (noteFrame (.ref e) env) Q E s:=by
 obtain ⟨oe,vs,T,oT,ts,he,hc,hdx,hd,h1,hT,hne,hoT,hdT,h3⟩:=x.ex
 unfold noteFrame
 simp only [hf]
 refine wpAny_bind (wpAny_field he hd h1 ?_)
 rw [if_pos (show (Value.ref T != Value.none)=true from by simp)]
 refine wpAny_bind (wpAny_field hoT hdT h3 ?_)
 cases hfl:(fl == rawInt L) with
 |false=>
  rw [if_neg Bool.false_ne_true]
  refine wpAny_bind (wpAny_setField hoT hdT (Array.getElem?_eq_some_iff.mp h3).1 ?_)
  have oth:∀b,b≠T->(s.heap.update T (Obj.mapFields (·.setIfInBounds 3 Value.none))).get? b=s.heap.get? b:=fun b hb=>Heap.get?_update_other _ _ (Ne.symm hb)
  have nrec:∀b o,s.heap.get? b=some o->(∀ws,o.data≠.fields ws)->b≠T:=fun b o q nf z=>by
   rw [z,hoT] at q
   cases q
   exact nf ts hdT
  refine entryD hfr (x.fr.of_keeps fun b o q nf=>⟨o,(oth b (nrec b o q nf)).trans q,rfl⟩) hf ((oth e (Ne.symm hne)).trans he) hc hdx hd (Array.getElem?_eq_some_iff.mp h1).1
   (fun b o q=>(oth b fun z=>by rw [z,hT] at q;cases q).trans (x.stays b o q)) x.new fun g y u=>h g _ y ?_
  refine ⟨fun b o q nf=>u.up b o ((oth b (nrec b o q nf)).trans q) nf,fun b o q=>?_⟩
  by_cases hb:b=T
  ·rw [hb]
   exact u.there _ _ (Heap.get?_update_self _ hoT (Obj.isFreed_of_fields (Obj.data_mapFields hdT _)))
  ·exact u.there b o ((oth b hb).trans q)
 |true=>
  rw [if_pos rfl]
  exact wpAny_pure (h _ _ x (Up.refl _))
theorem leaveD {fl:Value} (hfr:A.frames=some (env::outer)) (hf:env.frame=some L) (x:FlyD B (env::outer) e dx cls fl s.heap)
  (h:∀g,FlyD B outer e dx cls .none g->Up s.heap g->Q () {s with heap:=g}):wpAny M A (leaving env (.ref e)) Q E s:=by
 unfold leaving
 refine wpAny_bind (noteD hfr hf x fun g fl' y u=>?_)
 exact flightD (s:={s with heap:=g}) (fr:=none) y fun g2 y2 u2=>h g2 y2.pop (u.trans u2)
theorem leaveN (hfr:A.frames=some (env::outer)) (hf:env.frame=some L) (x:NewD B (env::outer) e dx cls s.heap)
  (h:∀g,FlyD B outer e dx cls .none g->Up s.heap g->Q () {s with heap:=g}):wpAny M A (leaving env (.ref e)) Q E s:=by
 obtain ⟨oe,vs,he,hc,hdx,hd,h1⟩:=x.ex
 unfold leaving noteFrame
 simp only [hf]
 refine wpAny_bind (wpAny_bind (wpAny_field he hd h1 ?_))
 rw [if_neg (by decide)]
 refine entryD hfr x.fr hf he hc hdx hd (Array.getElem?_eq_some_iff.mp h1).1 x.stays x.new fun g y u=>?_
 exact flightD (s:={s with heap:=g}) (fr:=none) y fun g2 y2 u2=>h g2 y2.pop (u.trans u2)
theorem passD {α:Type} {what:String} {l:List Env} {fl:Value} {Q':α->Shared->Prop} (x:FlyD B l e dx cls fl s.heap)
  (h:∀g fl',FlyD B l e dx cls fl' g->Up s.heap g->E (.ref e) {s with heap:=g}):wpAny M A (passOn what (.ref e) env:Sem α) Q' E s:=by
 obtain ⟨oe,vs,T,oT,ts,he,hc,hdx,hd,h1,hT,hne,hoT,hdT,h3⟩:=id x.ex
 unfold passOn
 refine wpAny_bind (wpAny_field he hd h1 ?_)
 rw [if_neg (show ¬((Value.ref T == Value.none)=true) from by simp)]
 refine wpAny_bind (flightD x fun g y u=>?_)
 exact wpAny_throw (h g _ y u)
end
end XD
namespace XD
open PySem
open Builtin Builtin.ObjectAttr
abbrev bmE:List Value:=[.type "Exception",.type "BaseException",.type "object"]
structure ErrCls (h:Heap) (C:Addr) (mN:Str->Option Value):Prop where
 ex:∃(nm q:Str) (N:Addr) (bs:List Value) (sn:List Str) (sub:List Value) (ab:Bool) (col:Option Bool) (dd:Option Addr) (k0 k1 k2 k3 k5:Option Value),
  h.get? C=some (excClassObj nm q C N bs bmE true sn sub ab col dd k0 k1 k2 k3 k5 "Exception.__new__")/\h.Ns N mN
section
variable {prog:Program} {w:World} {A:Around} {E:Value->Shared->Prop} {h:Heap} {g:Array GenState} {d:Drawn} {t:Nat} {os:OsState} {C x:Addr} {mN:Str->Option Value} {name:Str} {v:Value} {o:Obj} {ws:Array Value}
theorem storeXe {tk:Tok} {Q:Fin->Shared->Prop} {nm q:Str} {N:Addr} {bs bm:List Value} {sn:List Str} {sub:List Value} {ab:Bool} {col:Option Bool} {dd:Option Addr} {k0 k1 k2 k3 k5:Option Value} {B newId sa owner:String}
  (SF:StoreFacts B bm sa owner) (hC:h.get? C=some (excClassObj nm q C N bs bm true sn sub ab col dd k0 k1 k2 k3 k5 newId)) (hn:h.Ns N mN) (hna:mN name=none) (hB:typeLookup (.type B) name=pure none)
  (hx:h.get? x=some o) (hc:o.cls=.ref C) (hd:o.data=.fields ws) (hdn:o.dict=none)
  (hq:∀(h':Heap) (tk:Nat),h'.get? x=some {o with dict:=some h.objs.size}->h'.Ns1 h.objs.size (fun y=>if y=name then some v else none)->(∀b ob,b≠x->h.get? b=some ob->h'.get? b=some ob)->
   PySem.Within (fun y=>if y=name then some v else none) [name]->Q (.done (.ret .none)) ⟨h',g,d,tk,os⟩):wpAny (model prog w) A (Builtin.«object.__setattr__» ⟨[.ref x,.str name tk,v],[]⟩) Q E ⟨h,g,d,t,os⟩:=by
 have hpass:=SF.passes (.ref x)
 have hmro:=SF.mro
 unfold Builtin.«object.__setattr__»
 repeat (first
  |rw [refuse_eq]
  |rw [refuseLoop_ref,hpass]
  |(with_reducible refine wpAny_loadPart_at hx ?_;rw [hc])
  |with_reducible refine wpAny_mroOf_exc hC ?_
  |(with_reducible refine wpAny_typeLookup_exc hC hn hmro hB ?_;rw [hna])
  |wp_step)
 rw [hdn,if_neg (by simp [typeHasDict])]
 split
 ·rename_i z
  cases z
 split
 ·rename_i c z
  rw [hd] at z
  cases z
 have x1:(h.push {cls:=.type "dict",data:=.dict #[]}).get? x=some o:=Heap.get?_push_of_some _ hx
 have xs:x≠h.objs.size:=Nat.ne_of_lt (Heap.lt_size hx)
 refine wpAny_bind (wpAny_alloc' ?_)
 refine wpAny_bind (wpAny_update' x1 ?_)
 refine wpAny_pure ?_
 generalize hg2:((h.push {cls:=.type "dict",data:=.dict #[]}).update x fun o=>{cls:=o.cls,dict:=some h.objs.size,data:=o.data,slots:=o.slots})=g2
 have gd:g2.get? h.objs.size=some {cls:=.type "dict",data:=.dict #[]}:=by
  rw [<-hg2]
  exact (Heap.get?_update_ne _ _ _ _ xs.symm).trans (Heap.get?_push_at rfl rfl)
 have gx:g2.get? x=some {o with dict:=some h.objs.size}:=by
  rw [<-hg2]
  refine Heap.get?_update_self _ x1 ?_
  exact Obj.isFreed_of_fields hd
 have gk:∀b ob,b≠x->h.get? b=some ob->g2.get? b=some ob:=fun b ob hb e=>by
  rw [<-hg2]
  exact (Heap.get?_update_ne _ _ _ _ hb).trans (Heap.get?_push_of_some _ e)
 have nd:g2.Ns h.objs.size (fun _=>none):=⟨_,#[],_,gd,rfl,fun e he=>absurd he (by simp),fun _=>rfl⟩
 show wpAny _ _ (storeInDict h.objs.size (.str name _) name v) _ _ _
 unfold storeInDict newKeyGuard
 refine wpAny_bind (wpAny_pure (wpAny_bind (wpAny_nsSet1 (Heap.Ns1.of_empty nd) fun h' hn' hs=>?_)))
 have wi:PySem.Within (fun y=>if y=name then some v else none) [name]:=Within.cons name v Within.nil
 obtain ⟨oD,esD,epD,hoD,hdD,hcD⟩:=hn'.count wi
 refine wpAny_bind (wpAny_lookBehind hoD (by rw [hdD];exact pastItsLine_dict (Nat.le_trans hcD (by rw [List.length_cons,List.length_nil,sizeLine_eq];omega))) ?_)
 wp_walk
 exact hq h' _ ((hs.2 x xs).trans gx) hn' (fun b ob hb e=>(hs.2 b (Nat.ne_of_lt (Heap.lt_size e))).trans (gk b ob hb e)) wi
theorem storeXa {Q:Unit->Shared->Prop} {nm q:Str} {N:Addr} {bs bm:List Value} {sn:List Str} {sub:List Value} {ab:Bool} {col:Option Bool} {dd:Option Addr} {k0 k1 k2 k3 k5:Option Value} {B newId sa owner:String}
  (SF:StoreFacts B bm sa owner) (hC:h.get? C=some (excClassObj nm q C N bs bm true sn sub ab col dd k0 k1 k2 k3 k5 newId)) (hn:h.Ns N mN) (hns:mN "__setattr__"=none) (hna:mN name=none) (hB:typeLookup (.type B) name=pure none)
  (hx:h.get? x=some o) (hc:o.cls=.ref C) (hd:o.data=.fields ws) (hdn:o.dict=none)
  (hq:∀(h':Heap) (tk:Nat),h'.get? x=some {o with dict:=some h.objs.size}->h'.Ns1 h.objs.size (fun y=>if y=name then some v else none)->(∀b ob,b≠x->h.get? b=some ob->h'.get? b=some ob)->
   PySem.Within (fun y=>if y=name then some v else none) [name]->Q () ⟨h',g,d,tk,os⟩):wpAny (model prog w) A (setAttr (.ref x) name v) Q E ⟨h,g,d,t,os⟩:=by
 have f3:=SF.slot.bind (.ref x)
 unfold setAttr callSpecial? specialOf
 repeat (first
  |(with_reducible refine wpAny_loadPart_at hx ?_;rw [hc])
  |(with_reducible refine wpAny_typeLookup_exc hC hn SF.mro SF.slot.lookup ?_;rw [hns])
  |wp_step)
 refine codeAny_call_builtin SF.slot.plain SF.entry (wpAny_check_sa SF hC hx hc (storeXe SF hC hn hna hB hx hc hd hdn fun h' tk' y1 y2 y3 y4=>?_))
 repeat (first|exact hq h' tk' y1 y2 y3 y4|wp_step)
theorem storeX {Q:Unit->Shared->Prop} (K:ErrCls h C mN) (hns:mN "__setattr__"=none) (hna:mN name=none) (hB:typeLookup (.type "Exception") name=pure none)
  (hx:h.get? x=some o) (hc:o.cls=.ref C) (hd:o.data=.fields ws) (hdn:o.dict=none)
  (hq:∀(h':Heap) (tk:Nat),h'.get? x=some {o with dict:=some h.objs.size}->h'.Ns1 h.objs.size (fun y=>if y=name then some v else none)->(∀b ob,b≠x->h.get? b=some ob->h'.get? b=some ob)->
   PySem.Within (fun y=>if y=name then some v else none) [name]->Q () ⟨h',g,d,tk,os⟩):wpAny (model prog w) A (setAttr (.ref x) name v) Q E ⟨h,g,d,t,os⟩:=by
 obtain ⟨nm,q,N,bs,sn,sub,ab,col,dd,k0,k1,k2,k3,k5,hC,hn⟩:=id K.ex
 exact storeXa F.store_Exception hC hn hns hna hB hx hc hd hdn hq
end
end XD
namespace XD
open PySem
open Builtin Builtin.ObjectAttr
section
variable {prog:Program} {w:World} {A:Around} {E:Value->Shared->Prop} {h:Heap} {g:Array GenState} {d:Drawn} {t:Nat} {os:OsState} {C x dx:Addr} {mN mA:Str->Option Value} {name:Str} {v:Value} {o:Obj} {ws:Array Value}
 {nm q:Str} {N:Addr} {bs bm:List Value} {sn:List Str} {sub:List Value} {ab:Bool} {col:Option Bool} {dd:Option Addr} {k0 k1 k2 k3 k5:Option Value} {B newId:String}
theorem loadXe {tk:Tok} {Q:Fin->Shared->Prop} (FB:ExcAttrBase B bm) (hC:h.get? C=some (excClassObj nm q C N bs bm true sn sub ab col dd k0 k1 k2 k3 k5 newId)) (hn:h.Ns N mN) (hna:mN name=none)
  (hB:typeLookup (.type B) name=pure none) (hx:h.get? x=some o) (hc:o.cls=.ref C) (hd:o.data=.fields ws) (hdx:o.dict=some dx) (hns:h.Ns1 dx mA) (hv:mA name=some v)
  (hq:Q (.done (.ret v)) ⟨h,g,d,t,os⟩):wpAny (model prog w) A (Builtin.«object.__getattribute__» ⟨[.ref x,.str name tk],[]⟩) Q E ⟨h,g,d,t,os⟩:=by
 have hmro:=FB.mro
 unfold Builtin.«object.__getattribute__»
 repeat (first
  |(with_reducible refine wpAny_loadPart_at hx ?_;rw [hc])
  |(with_reducible refine wpAny_typeLookup_exc hC hn hmro hB ?_;rw [hna])
  |wp_step)
 split
 ·rename_i c z
  rw [hd] at z
  cases z
 unfold instanceDict
 repeat (first
  |(with_reducible refine wpAny_loadPart_at hx ?_;rw [hc])
  |with_reducible refine wpAny_loadPart_at hC ?_
  |wp_step)
 rw [hdx]
 repeat (first
  |(with_reducible refine wpAny_nsGet hns.ns ?_;rw [hv])
  |wp_step)
 exact hq
theorem loadXa {expr:Bool} {Q:Value->Shared->Prop} (FB:ExcAttrBase B bm) (hC:h.get? C=some (excClassObj nm q C N bs bm true sn sub ab col dd k0 k1 k2 k3 k5 newId)) (hn:h.Ns N mN)
  (hng:mN "__getattribute__"=none) (hnh:mN "__getattr__"=none) (hna:mN name=none) (hB:typeLookup (.type B) name=pure none)
  (hx:h.get? x=some o) (hc:o.cls=.ref C) (hd:o.data=.fields ws) (hdx:o.dict=some dx) (hns:h.Ns1 dx mA) (hv:mA name=some v) (hh:handedOut v=pure v)
  (hq:Q v ⟨h,g,d,t+1,os⟩):wpAny (model prog w) A (getAttr (.ref x) name expr) Q E ⟨h,g,d,t,os⟩:=by
 have f3:=FB.ga.bind (.ref x)
 have z0:(expr&&onTheHeap (Value.builtin "BaseException.__getattribute__"))=false:=by cases expr <;> rfl
 have z2:(Value.builtin "BaseException.__getattribute__" == Value.builtin "object.__getattribute__")=false:=by decide+kernel
 have z1:(onTheHeap (Value.ref C)&&Value.builtin "BaseException.__getattribute__" == Value.builtin "object.__getattribute__")=false:=by rw [z2];rfl
 have hmro:=FB.mro
 unfold getAttr getAttrBy
 repeat (first
  |(with_reducible refine wpAny_loadPart_at hx ?_;rw [hc])
  |(with_reducible refine wpAny_typeLookup_exc hC hn hmro FB.ga.lookup ?_;rw [hng])
  |(with_reducible refine wpAny_typeLookup_exc hC hn hmro FB.noGetattr ?_;rw [hnh])
  |wp_step)
 refine codeAny_call_builtin FB.ga.plain F.entry_bexc_ga (wpAny_check_ga_own FB hC .base hx hc (loadXe FB hC hn hna hB hx hc hd hdx hns hv ?_))
 show wpAny _ _ (handedOut v) Q E _
 rw [hh]
 exact wpAny_pure hq
theorem loadX {expr:Bool} {Q:Value->Shared->Prop} (K:ErrCls h C mN) (hng:mN "__getattribute__"=none) (hnh:mN "__getattr__"=none) (hna:mN name=none) (hB:typeLookup (.type "Exception") name=pure none)
  (hx:h.get? x=some o) (hc:o.cls=.ref C) (hd:o.data=.fields ws) (hdx:o.dict=some dx) (hns:h.Ns1 dx mA) (hv:mA name=some v) (hh:handedOut v=pure v)
  (hq:Q v ⟨h,g,d,t+1,os⟩):wpAny (model prog w) A (getAttr (.ref x) name expr) Q E ⟨h,g,d,t,os⟩:=by
 obtain ⟨nm,q,N,bs,sn,sub,ab,col,dd,k0,k1,k2,k3,k5,hC,hn⟩:=id K.ex
 exact loadXa F.attrBase_Exception hC hn hng hnh hna hB hx hc hd hdx hns hv hh hq
theorem makeX {rest:List Value} {fI:Addr} {oI:Obj} {Q:Value->Shared->Prop} (K:ErrCls h C mN) (hi:mN "__init__"=some (.ref fI)) (hfI:h.get? fI=some oI) (hfc:oI.cls=.type "function") (hz:rest.length<=sizeLine)
  (hq:∀h' e,Heap.MadeExcOf h h' e (.ref C) rest->
   wpAny (model prog w) (A.under (.builtin "type.__call__" ⟨.ref C::rest,[]⟩)) (call (.ref fI) (.ref e::rest)) (fun r s'=>r=.none/\Q (.ref e) s') E ⟨h',g,d,t,os⟩):
  wpAny (model prog w) A (call (.ref C) rest) Q E ⟨h,g,d,t,os⟩:=by
 obtain ⟨nm,q,N,bs,sn,sub,ab,col,dd,k0,k1,k2,k3,k5,hC,hn⟩:=id K.ex
 exact wpAny_call_exc_init F.excBase_Exception hC hn hi hfI hfc hq hz
end
end XD
namespace XD
open PySem
section
variable {M:Model} {A:Around} {E:Value->Shared->Prop} {env:Env}
def ErrObj (h:Heap) (C:Addr):Prop:=∃(nm q:Str) (N:Addr) (bs bm:List Value) (hdct:Bool) (sn:List Str) (sub:List Value) (ab:Bool) (col:Option Bool) (dd:Option Addr) (k0 k1 k2 k3 k5:Option Value) (newId:String),
 h.get? C=some (excClassObj nm q C N bs bm hdct sn sub ab col dd k0 k1 k2 k3 k5 newId)/\bm.contains (.type "BaseException")=true
theorem ErrCls.obj {h:Heap} {C:Addr} {mN:Str->Option Value} (K:ErrCls h C mN):ErrObj h C:=by
 obtain ⟨nm,q,N,bs,sn,sub,ab,col,dd,k0,k1,k2,k3,k5,hC,hn⟩:=K.ex
 exact ⟨nm,q,N,bs,bmE,true,sn,sub,ab,col,dd,k0,k1,k2,k3,k5,_,hC,by decide+kernel⟩
theorem raiseX {x:Sem Value} {s:Shared} {Q:Flow->Shared->Prop} (hh:A.handled=none)
  (h:wpAny M A x (fun v s1=>∃(e C:Addr) (oe:Obj) (ws:Array Value),v=.ref e/\ErrObj s1.heap C/\s1.heap.get? e=some oe/\oe.cls=.ref C/\oe.data=.fields ws/\ws[1]?=some .none/\E (.ref e) s1) E s):
  wpAny M A (raiseStmt env (some x) none) Q E s:=by
 unfold raiseStmt
 refine wpAny_bind (wpAny_mono h (fun v s1 h1=>?_) fun _ _ x=>x)
 obtain ⟨e,C,oe,ws,rfl,⟨nm,q,N,bs,bm,hdct,sn,sub,ab,col,dd,k0,k1,k2,k3,k5,newId,hC,hbase⟩,he,hc,hd,h1,hE⟩:=h1
 obtain ⟨hp,g,d,tk,os⟩:=s1
 have hcB:(Value.ref C::bm).contains (.type "BaseException")=true:=by rw [List.contains_cons,hbase,Bool.or_true]
 have fl:∀{Q:Unit->Shared->Prop},Q () ⟨hp,g,d,tk,os⟩->wpAny M A (setFlight (.ref e) none) Q E ⟨hp,g,d,tk,os⟩:=fun {Q} q=>by
  unfold setFlight
  refine wpAny_bind (wpAny_field he hd h1 ?_)
  rw [if_neg (by decide)]
  exact wpAny_pure q
 repeat (first
  |(with_reducible refine fl ?_)
  |(with_reducible refine wpAny_loadPart_at he ?_;rw [hc])
  |with_reducible refine wpAny_loadPart_at hC ?_
  |(with_reducible refine wpAny_isSubtype_exc hC ?_;rw [hcB])
  |wp_step)
 exact wpAny_raiseNew_none hh hE
theorem matchX {e C:Addr} {oe:Obj} {s:Shared} {Q:Bool->Shared->Prop} (K:ErrObj s.heap C) (he:s.heap.get? e=some oe) (hc:oe.cls=.ref C) (hq:Q true s):wpAny M A (excMatches (.ref e) (.ref C)) Q E s:=by
 obtain ⟨nm,q,N,bs,bm,hdct,sn,sub,ab,col,dd,k0,k1,k2,k3,k5,newId,hC,hbase⟩:=K
 obtain ⟨hp,g,d,tk,os⟩:=s
 exact wpAny_excMatches_sub_self hC he hc hbase hq
theorem note_congr {e:Value} {env':Env} (h:env'.frame=env.frame):noteFrame e env'=noteFrame e env:=by
 unfold noteFrame frameOf
 rw [h]
end
end XD
namespace L2
open PySem PySem.Spec PyProof.Rows
def rem (H:Hp) (p:Addr):Hp:=fun b=>if b=p then none else H b
theorem rem_ne {H:Hp} {p b:Addr} (h:b≠p):rem H p b=H b:=by unfold rem;rw [if_neg h]
theorem rem_same {H:Hp} {p:Addr}:rem H p p=none:=by unfold rem;rw [if_pos rfl]
theorem rem_some {H:Hp} {p b:Addr} {o:HO} (h:rem H p b=some o):b≠p/\H b=some o:=by
 by_cases e:b=p
 ·rw [e,rem_same] at h
  cases h
 ·rw [rem_ne e] at h
  exact ⟨e,h⟩
theorem there_of {P:Program} {w:World} {H:Hp} {h:Heap} {a:Addr} {o:HO} (x:ObjOk P w H h a o):∃ob,h.get? a=some ob:=by
 cases o with
 |lst xs=>obtain ⟨_,_,_,_,e⟩:=x;exact ⟨_,e⟩
 |tup xs=>obtain ⟨_,_,_,ob,e,_⟩:=x;exact ⟨_,e⟩
 |dK kvs=>obtain ⟨_,_,_,_,ob,_,_,e,_⟩:=x;exact ⟨_,e⟩
 |dT kvs=>obtain ⟨_,_,_,_,ob,_,_,e,_⟩:=x;exact ⟨_,e⟩
 |set S n=>obtain ⟨ob,_,_,_,e,_⟩:=x;exact ⟨_,e⟩
 |ins C dx fs=>obtain ⟨_,_,_,e,_⟩:=x;exact ⟨_,e⟩
 |own y=>exact x
 |xd fs=>obtain ⟨_,⟨ob,_,_,e,_⟩,_⟩:=x;exact ⟨_,e⟩
 |rng lo hi=>obtain ⟨_,_,_,e⟩:=x;exact ⟨_,e⟩
 |frz ob u=>obtain ⟨e,_⟩:=x;exact ⟨_,e⟩
 |tbl ps=>exact ⟨_,(show h.get? a=some _ from x)⟩
 |met f y=>exact ⟨_,(show h.get? a=some _ from x)⟩
 |ext φ=>exact x.2.1
theorem free_of {P:Program} {w:World} {H:Hp} {h:Heap} {a:Addr} (x:HOk P w H h) (e:h.get? a=none):H a=none:=by
 cases q:H a with
 |none=>rfl
 |some o=>
  obtain ⟨ob,z⟩:=there_of (x a o q)
  rw [e] at z
  cases z
def excObj (C tt:Addr) (dx:Option Addr):Obj:={cls:=.ref C,dict:=dx,data:=.fields #[.ref tt,.none,.none,.none,.bool false,.none]}
def excO (C tt:Addr) (dx:Option Addr) (p:Addr):HO:=.ext fun h=>h.get? p=some (excObj C tt dx)
def excH (C dx p:Addr):HO:=.ext fun h=>∃(oe:Obj) (vs:Array Value),h.get? p=some oe/\oe.cls=.ref C/\oe.dict=some dx/\oe.data=.fields vs
theorem excO_ok {P:Program} {w:World} {H:Hp} {h:Heap} {C tt p:Addr} {dx:Option Addr} (e:h.get? p=some (excObj C tt dx)):ObjOk P w H h p (excO C tt dx p):=⟨e,⟨_,e⟩,fun _ _ e1 k=>k _ e1⟩
theorem excO_get {P:Program} {w:World} {H:Hp} {h:Heap} {C tt p:Addr} {dx:Option Addr} (x:ObjOk P w H h p (excO C tt dx p)):h.get? p=some (excObj C tt dx):=x.1
theorem excH_ok {P:Program} {w:World} {H:Hp} {h:Heap} {C dx p:Addr} {oe:Obj} {vs:Array Value} (e:h.get? p=some oe) (hc:oe.cls=.ref C) (hd:oe.dict=some dx) (hv:oe.data=.fields vs):ObjOk P w H h p (excH C dx p):=
 ⟨⟨oe,vs,e,hc,hd,hv⟩,⟨_,e⟩,fun _ _ ⟨oe,vs,e1,r⟩ k=>⟨oe,vs,k _ e1,r⟩⟩
def ErrK (K:W.Frag) (C fI:Addr) (f:Str):Prop:=∀h:Heap,K.In h->∃mN,XD.ErrCls h C mN/\mN "__init__"=some (.ref fI)/\mN "__setattr__"=none/\mN "__getattribute__"=none/\mN "__getattr__"=none/\mN f=none/\
 ∃oI,h.get? fI=some oI/\oI.cls=.type "function"
def CX1 (P:Program) (w:World):CXT:=fun outer H s E e s'=>∃(ea dx C:Addr) (H':Hp) (B:Heap),e=.ref ea/\s'.os=s.os/\AllBare s'.gens/\XD.FlyD B outer ea dx (.ref C) .none s'.heap/\HOk P w H' B/\
 (∀b o,s.heap.get? b=some o->H b=none->b∉frs outer->B.get? b=some o)/\Un (frs outer) [] H H' s.heap s'.heap/\E (.ref C) (some dx) H'
def FlyIn (X:Cx) (pins:List (Addr×Obj)) (σ:St) (ea dx C:Addr) (H':Hp) (s':Shared):Prop:=∃(B:Heap) (fl:Value),Inv X pins σ H' s'/\XD.FlyD B X.stack ea dx (.ref C) fl s'.heap/\HOk X.prog X.w H' B/\
 (∀b o,X.s_0.heap.get? b=some o->X.H_0 b=none->b∉X.fs->b∉X.ex->B.get? b=some o)/\∀p∈X.pn++pins,B.get? p.1=some p.2
def XeOk (X:Cx) (E:XK):Prop:=∀(pins:List (Addr×Obj)) (σ:St) (ea dx C:Addr) (H':Hp) (s':Shared),FlyIn X pins σ ea dx C H' s'->E (.ref C) (some dx) H'->X.xe (.ref ea) s'
section
variable {X:Cx} {pins:List (Addr×Obj)} {σ:St} {H:Hp} {s s':Shared} {E:XK} {e:Value}
theorem not_stack {b:Addr} {o:Obj} (I:Inv X pins σ H s) (q:X.s_0.heap.get? b=some o) (hb:b∉X.fs):b∉frs X.stack:=fun z=>by
 rcases List.mem_cons.mp (I.stkSub b z) with r|r
 ·exact absurd (Heap.lt_size q) (by rw [r];exact Nat.not_lt.mpr I.ok.above)
 ·exact hb r
theorem fly_in (I:Inv X pins σ H s) (x:CX1 X.prog X.w X.stack H s E e s'):∃ea dx C H',e=.ref ea/\FlyIn X pins σ ea dx C H' s'/\E (.ref C) (some dx) H':=by
 obtain ⟨ea,dx,C,H',B,rfl,os,bare,fly,ok,kb,un,q⟩:=x
 have I':Inv X pins σ H' s':=I.call' (ch:=[]) os un (ok.kept fly.stays) bare fun b z=>absurd z (by simp)
 refine ⟨ea,dx,C,H',rfl,⟨B,.none,I',fly,ok,fun b o e1 e2 e3 e4=>?_,fun p hp=>?_⟩,q⟩
 ·exact kb b o (I.base.keep b o e1 e2 e3 e4) (I.base.free b o e1 e2 e4) (not_stack I e1 e3)
 ·obtain ⟨e1,e2,e3,e4,_⟩:=I.pin p hp
  refine kb p.1 p.2 e1 e2 fun z=>?_
  rcases List.mem_cons.mp (I.stkSub _ z) with r|r
  ·exact e3 r
  ·exact e4 r
theorem passes_of (h:XeOk X E):Passes (CX1 X.prog X.w) X E:=fun pins σ H s e s' I x=>by
 obtain ⟨ea,dx,C,H',rfl,f,q⟩:=fly_in I x
 exact h pins σ ea dx C H' s' f q
end
section
variable {P:Program} {w:World} {K:W.Frag} {mg:Str->Option Value} {base:Heap} {N:List Str} {qual:Str} {scope:Scope} {f:Addr} {cd:Value} {A:Around} {outer:List Env} {s:Shared} {H:Hp} {E:XK}
theorem un_left {X:Cx} {pins:List (Addr×Obj)} {σ:St} {H1 H':Hp} {s1:Shared} {B g:Heap} (I:Inv X pins σ H1 s1) (hex:X.ex=[]) (fr:∀b o,X.s_0.heap.get? b=some o->X.H_0 b=none->H' b=none) (tu:∀b xs,X.H_0 b=some (.tup xs)->H' b=some (.tup xs))
  (fz:∀b o u,X.H_0 b=some (.frz o u)->H' b=some (.frz o u)) (tb:∀b ps,X.H_0 b=some (.tbl ps)->∃more,H' b=some (.tbl (ps++more))) (st:B.StaysIn g) (up:XD.Up s1.heap g)
  (kb:∀b o,X.s_0.heap.get? b=some o->X.H_0 b=none->b∉X.fs->b∉X.ex->B.get? b=some o):Un X.fs [] X.H_0 H' X.s_0.heap g where
 keep:=fun b o e n hb _=>st b o (kb b o e n hb (by rw [hex];simp))
 slot:=fun b o e n hb _=>by
  obtain ⟨sl,e1⟩:=I.base.slot b o e n hb (by rw [hex];simp)
  obtain ⟨_,o',e2,nf⟩:=I.ok.funs.mem hb
  rw [e] at e2
  cases e2
  obtain ⟨sl',e3⟩:=up.up b _ e1 nf
  exact ⟨sl',e3⟩
 free:=fun b o e n _=>fr b o e n
 there:=fun b o e _=>by
  obtain ⟨o',e1⟩:=I.base.there b o e (by rw [hex];simp)
  exact up.there b o' e1
 tups:=tu
 frzs:=fz
 tbls:=tb
theorem xeOk_cx:XeOk (cxOf (CX1 P w) P w K mg base N qual scope f cd A outer s H E) E:=by
 intro pins σ ea dx C H' s' ⟨B,fl,I,fly,ok,kb,pb⟩ q
 have hfr:(A.deeper (envOfC qual scope s.heap.objs.size f cd)).frames=some (envOfC qual scope s.heap.objs.size f cd::outer):=I.ok.frames
 show wpAny _ _ (leaving (envOfC qual scope s.heap.objs.size f cd) (.ref ea)) _ _ s'
 refine XD.leaveD (L:=s.heap.objs.size) hfr rfl fly fun g y u=>?_
 exact ⟨ea,dx,C,H',B,rfl,I.os,I.bare,y,ok,fun b o e n hb=>kb b o e n hb (by intro z;exact absurd (show b∈([]:List Addr) from z) (by simp)),
   un_left I rfl (fun b o e n=>I.base.free b o e n (by intro z;exact absurd (show b∈([]:List Addr) from z) (by simp))) I.base.tups I.base.frzs I.base.tbls y.stays u kb,q⟩
def RaiseOk (X:Cx) (E:XK):Prop:=∀(pins:List (Addr×Obj)) (σ:St) (p dx C tt:Addr) (H1:Hp) (s1:Shared),Inv X pins σ H1 s1->H1 p=some (excO C tt (some dx) p)->E (.ref C) (some dx) (rem H1 p)->X.xe (.ref p) s1
theorem raiseOk_cx:RaiseOk (cxOf (CX1 P w) P w K mg base N qual scope f cd A outer s H E) E:=by
 intro pins σ p dx C tt H1 s1 I hp q
 have hfr:(A.deeper (envOfC qual scope s.heap.objs.size f cd)).frames=some (envOfC qual scope s.heap.objs.size f cd::outer):=I.ok.frames
 have hstk:s1.heap.FunFrames base (envOfC qual scope s.heap.objs.size f cd::outer):=I.stack
 have gp:s1.heap.get? p=some (excObj C tt (some dx)):=excO_get (I.hok p _ hp)
 generalize hl:p::(envOfC qual scope s.heap.objs.size f cd::outer).filterMap (·.frame)=l
 have hfree:∀b∈(envOfC qual scope s.heap.objs.size f cd::outer).filterMap (·.frame),H1 b=none:=fun b hb=>I.stkFree b hb
 have out:∀b o,b≠p->H1 b=some o->b∉l:=fun b o hb e z=>by
  rw [<-hl] at z
  rcases List.mem_cons.mp z with r|r
  ·exact hb r
  ·rw [hfree b r] at e
   cases e
 have nd:XD.NewD (PySem.W.hideAll s1.heap l) (envOfC qual scope s.heap.objs.size f cd::outer) p dx (.ref C) s1.heap:=by
  refine ⟨fun b o e=>PySem.W.of_hideAll _ e,PySem.W.hideAll_none _ (by rw [<-hl];exact List.mem_cons_self),?_,_,_,gp,rfl,rfl,rfl,rfl⟩
  exact PySem.W.funFrames_hide hstk fun env he a ha=>by rw [<-hl];exact List.mem_cons_of_mem _ (List.mem_filterMap.mpr ⟨env,he,ha⟩)
 show wpAny _ _ (leaving (envOfC qual scope s.heap.objs.size f cd) (.ref p)) _ _ s1
 refine XD.leaveN (L:=s.heap.objs.size) hfr rfl nd fun g y u=>?_
 have exn:∀b,b∉(cxOf (CX1 P w) P w K mg base N qual scope f cd A outer s H E).ex:=fun b z=>absurd (show b∈([]:List Addr) from z) (by simp)
 have np:∀b o,s.heap.get? b=some o->H b=none->b≠p:=fun b o e n z=>by
  have:=I.base.free b o e n (exn b)
  rw [z,hp] at this
  cases this
 have kb:∀b o,s.heap.get? b=some o->H b=none->b∉frs outer->(PySem.W.hideAll s1.heap l).get? b=some o:=fun b o e n hb=>by
  refine PySem.W.hideAll_get _ (I.base.keep b o e n hb (exn b)) fun z=>?_
  rw [<-hl] at z
  rcases List.mem_cons.mp z with r|r
  ·exact np b o e n r
  ·exact not_stack I e hb r
 have ok:HOk P w (rem H1 p) (PySem.W.hideAll s1.heap l):=fun a o e=>by
  obtain ⟨hne,e⟩:=rem_some e
  refine (I.hok a o e).stay (fun b u hb z=>PySem.W.hideAll_get _ z ?_) (fun b z=>?_) fun b xs z=>?_
  ·rcases hb with r|r
   ·rw [r];exact out a o hne e
   ·refine out b _ (fun z2=>?_) r
    rw [z2,hp] at r
    cases r
  ·rw [rem_ne (fun z2=>by rw [z2,hp] at z;cases z)];exact z
  ·rw [rem_ne (fun z2=>by rw [z2,hp] at z;cases z)];exact z
 refine ⟨p,dx,C,rem H1 p,_,rfl,I.os,I.bare,y,ok,kb,?_,q⟩
 refine un_left (X:=cxOf (CX1 P w) P w K mg base N qual scope f cd A outer s H E) I rfl (fun b o e n=>?_) (fun b xs e=>?_) (fun b o xs e=>?_) (fun b ps e=>?_) y.stays u fun b o e n hb _=>kb b o e n hb
 ·rw [rem_ne (np b o e n)]
  exact I.base.free b o e n (exn b)
 ·have z:=I.base.tups b xs e
  rw [rem_ne (fun z2=>by rw [z2,hp] at z;cases z)]
  exact z
 ·have z:=I.base.frzs b o xs e
  rw [rem_ne (fun z2=>by rw [z2,hp] at z;cases z)]
  exact z
 ·obtain ⟨more,z⟩:=I.base.tbls b ps e
  rw [rem_ne (fun z2=>by rw [z2,hp] at z;cases z)]
  exact ⟨more,z⟩
end
def LFly (X:Cx) (E:XK) (e:Value) (s':Shared):Prop:=X.Ok/\∃(ea dx C:Addr) (H':Hp) (B:Heap) (fl:Value),e=.ref ea/\s'.os=X.s_0.os/\AllBare s'.gens/\XD.FlyD B X.stack ea dx (.ref C) fl s'.heap/\HOk X.prog X.w H' B/\
 (∀b o,X.s_0.heap.get? b=some o->X.H_0 b=none->b∉X.fs->B.get? b=some o)/\Un X.fs [] X.H_0 H' X.s_0.heap s'.heap/\E (.ref C) (some dx) H'
section
variable {X:Cx} {pins:List (Addr×Obj)} {σ:St} {H H':Hp} {s s':Shared} {E:XK} {e:Value}
theorem un_up {h g B:Heap} (ok:X.Ok) (u:Un X.fs [] X.H_0 H' X.s_0.heap h) (st:B.StaysIn g) (kb:∀b o,X.s_0.heap.get? b=some o->X.H_0 b=none->b∉X.fs->B.get? b=some o) (up:XD.Up h g):Un X.fs [] X.H_0 H' X.s_0.heap g where
 keep:=fun b o e n hb _=>st b o (kb b o e n hb)
 slot:=fun b o e n hb hx=>by
  obtain ⟨sl,e1⟩:=u.slot b o e n hb hx
  obtain ⟨_,o',e2,nf⟩:=ok.funs.mem hb
  rw [e] at e2
  cases e2
  obtain ⟨sl',e3⟩:=up.up b _ e1 nf
  exact ⟨sl',e3⟩
 free:=u.free
 there:=fun b o e hx=>by
  obtain ⟨o',e1⟩:=u.there b o e hx
  exact up.there b o' e1
 tups:=u.tups
 frzs:=u.frzs
 tbls:=u.tbls
theorem lfly_in {ea dx C:Addr} (hex:X.ex=[]) (f:FlyIn X pins σ ea dx C H' s') (q:E (.ref C) (some dx) H'):LFly X E (.ref ea) s':=by
 obtain ⟨B,fl,I,fly,ok,kb,pb⟩:=f
 have hb:=I.base
 rw [hex] at hb kb
 exact ⟨I.ok,ea,dx,C,H',B,fl,rfl,I.os,I.bare,fly,ok,fun b o e n hb=>kb b o e n hb (by simp),hb,q⟩
theorem lfly_owns {L:Addr} (hs:X.stack=X.env::X.outer) (hf:X.env.frame=some L):PassesOwn (model X.prog X.w) X.A X.env (LFly X E):=by
 rintro e s' ⟨ok,ea,dx,C,H',B,fl,rfl,os,bare,fly,hok,kb,un,q⟩
 have hfr:=ok.frames
 rw [hs] at hfr fly
 show wpAny _ _ (noteFrame (.ref ea) X.env) _ _ s'
 refine XD.noteD hfr hf fly fun g fl' y u=>?_
 obtain ⟨oe,vs,T,oT,ts,he,hc,hdx,hd,h1,hT,hne,hoT,hdT,h3⟩:=id y.ex
 unfold cameBackBy
 refine wpAny_bind (wpAny_field he hd h1 ?_)
 rw [if_neg (show ¬((Value.ref T == Value.none)=true) from by simp)]
 refine XD.flightD (s:={s' with heap:=g}) y fun g2 y2 u2=>?_
 have y3:=y2
 rw [<-hs] at y3
 exact ⟨ok,ea,dx,C,H',B,_,rfl,os,bare,y3,hok,kb,un_up ok un y2.stays kb (u.trans u2),q⟩
theorem PSs.under {W:Value->Shared->Prop} {st:List Stmt} {t:TS} (hW:∀e s,W e s->X.xe e s) (h:PSs (X.wish W) st t):PSs X st t:=fun pins s σ H D I hw=>
 wpAny_mono (h pins s σ H D (I.wish _) hw) (fun _ _ q=>q.unwish) hW
end
section
variable {P:Program} {w:World} {K:W.Frag} {mg:Str->Option Value} {base:Heap} {N:List Str} {qual:Str} {scope:Scope} {f:Addr} {cd:Value} {A:Around} {outer:List Env} {s:Shared} {H:Hp} {E:XK}
theorem lfly_leave {e:Value} {s':Shared} (h:LFly (cxOf (CX1 P w) P w K mg base N qual scope f cd A outer s H E) E e s'):(cxOf (CX1 P w) P w K mg base N qual scope f cd A outer s H E).xe e s':=by
 obtain ⟨ok,ea,dx,C,H',B,fl,rfl,os,bare,fly,hok,kb,un,q⟩:=h
 have hfr:(A.deeper (envOfC qual scope s.heap.objs.size f cd)).frames=some (envOfC qual scope s.heap.objs.size f cd::outer):=ok.frames
 show wpAny _ _ (leaving (envOfC qual scope s.heap.objs.size f cd) (.ref ea)) _ _ s'
 refine XD.leaveD (L:=s.heap.objs.size) hfr rfl fly fun g y u=>?_
 exact ⟨ea,dx,C,H',B,rfl,os,bare,y,hok,fun b o e n hb=>kb b o e n hb,un_up (X:=cxOf (CX1 P w) P w K mg base N qual scope f cd A outer s H E) ok un y.stays kb u,q⟩
abbrev cxF (P:Program) (w:World) (K:W.Frag) (mg:Str->Option Value) (base:Heap) (N:List Str) (qual:Str) (scope:Scope) (f:Addr) (cd:Value) (A:Around) (outer:List Env) (s:Shared) (H:Hp) (E:XK):Cx:=
 (cxOf (CX1 P w) P w K mg base N qual scope f cd A outer s H E).wish (LFly (cxOf (CX1 P w) P w K mg base N qual scope f cd A outer s H E) E)
theorem xeOk_cxF:XeOk (cxF P w K mg base N qual scope f cd A outer s H E) E:=by
 intro pins σ ea dx C H' s' ⟨B,fl,I,fly,ok,kb,pb⟩ q
 exact lfly_in (X:=cxOf (CX1 P w) P w K mg base N qual scope f cd A outer s H E) rfl ⟨B,fl,I.unwish,fly,ok,kb,pb⟩ q
theorem passF:Passes (CX1 P w) (cxF P w K mg base N qual scope f cd A outer s H E) E:=passes_of xeOk_cxF
theorem pass1:Passes (CX1 P w) (cxOf (CX1 P w) P w K mg base N qual scope f cd A outer s H E) E:=passes_of xeOk_cx
theorem ownsF:PassesOwn (model (cxF P w K mg base N qual scope f cd A outer s H E).prog (cxF P w K mg base N qual scope f cd A outer s H E).w) (cxF P w K mg base N qual scope f cd A outer s H E).A (cxF P w K mg base N qual scope f cd A outer s H E).env (cxF P w K mg base N qual scope f cd A outer s H E).xe:=
 lfly_owns (X:=cxOf (CX1 P w) P w K mg base N qual scope f cd A outer s H E) (L:=s.heap.objs.size) rfl rfl
end
section
variable {P:Program} {w:World} {K:W.Frag} {mg:Str->Option Value} {base:Heap}
theorem Fun.okX {x qual:Str} {st:Stmt} {f:Addr} {fd:FuncData} {N ps:List Str} {k:Nat} {sp:Sp} (F:Fun K x qual st f fd) (S:FnScope N ps (defScope st)) (len:∀vs H Q E,sp vs H Q E->vs.length=ps.length)
  (hbody:∀(cdv:Value) (A:Around) (outer:List Env) (s:Shared) (H:Hp) (vs:List V) (Q:VK) (E:XK),Room k (A.deeper (envOfC qual (defScope st) s.heap.objs.size f cdv))->sp vs H Q E->
   ∃t,PSs (cxOf (CX1 P w) P w K mg base N qual (defScope st) f cdv A outer s H E) (defBody st) t/\t {nx:=fun _ H'=>Q .non H',rt:=Q} (start N vs) H):FnOk P w K mg base (CX1 P w) (k+1) f fd ps sp:=by
 obtain ⟨oc,od,kV,doc,pm,an,cdv,ct,osl,rfl,lk,hcd⟩:=F.ex
 exact fn_of lk hcd S len fun A outer s H vs Q E hr hsp=>hbody cdv A outer s H vs Q E hr hsp
theorem Fun.okF {x qual:Str} {st:Stmt} {f:Addr} {fd:FuncData} {N ps:List Str} {k:Nat} {sp:Sp} (F:Fun K x qual st f fd) (S:FnScope N ps (defScope st)) (len:∀vs H Q E,sp vs H Q E->vs.length=ps.length)
  (hbody:∀(cdv:Value) (A:Around) (outer:List Env) (s:Shared) (H:Hp) (vs:List V) (Q:VK) (E:XK),Room k (A.deeper (envOfC qual (defScope st) s.heap.objs.size f cdv))->sp vs H Q E->
   ∃t,PSs (cxF P w K mg base N qual (defScope st) f cdv A outer s H E) (defBody st) t/\t {nx:=fun _ H'=>Q .non H',rt:=Q} (start N vs) H):FnOk P w K mg base (CX1 P w) (k+1) f fd ps sp:=by
 refine F.okX S len fun cdv A outer s H vs Q E hr hsp=>?_
 obtain ⟨t,h,q⟩:=hbody cdv A outer s H vs Q E hr hsp
 exact ⟨t,PSs.under (fun _ _ h=>lfly_leave h) h,q⟩
end
section
variable {X:Cx} {pins:List (Addr×Obj)} {σ:St} {H:Hp} {s:Shared}
def sFldX (K:W.Frag) (C fI:Addr) (to tv:TE) (f:Str):TS:=fun D σ H=>tv σ H fun y H1=>to σ H1 fun x H2=>∃p tt,x=.ref p/\H2 p=some (excO C tt none p)/\ErrK K C fI f/\typeLookup (.type "Exception") f=pure none/\
 ∀dx,H2 dx=none->D.nx σ (upd (upd H2 p (excO C tt (some dx) p)) dx (.xd [(f,y)]))
theorem storeX_ok {C fI p tt:Addr} {f:Str} {y:V} {u:Value} {A:Around} {E:Value->Shared->Prop} {Q:Unit->Shared->Prop} (I:Inv X pins σ H s) (e:H p=some (excO C tt none p)) (k:ErrK X.K C fI f) (hB:typeLookup (.type "Exception") f=pure none) (ry:RelV y u)
  (h:∀s' dx,H dx=none->Inv X pins σ (upd (upd H p (excO C tt (some dx) p)) dx (.xd [(f,y)])) s'->Q () s'):wpAny (model X.prog X.w) A (setAttr (.ref p) f u) Q E s:=by
 obtain ⟨mN,KC,hi,hns,hga,hgt,hf,oI,hoI,hcI⟩:=k s.heap I.kIn
 have gp:=excO_get (I.hok p _ e)
 obtain ⟨hh,gn,dr,tk,os⟩:=s
 refine XD.storeX (v:=u) KC hns hf hB gp rfl rfl rfl fun h' tk' y1 y2 y3 y4=>?_
 have hd:H hh.objs.size=none:=I.hok.fresh (Nat.le_refl _)
 have hpd:p≠hh.objs.size:=Nat.ne_of_lt (Heap.lt_size gp)
 refine h _ hh.objs.size hd ?_
 have kp:∀b ob,b≠p->hh.get? b=some ob->h'.get? b=some ob:=y3
 refine Inv.un (t':=tk') I ⟨fun b o q n _ _=>kp b o (fun z=>by rw [z,e] at n;cases n) q,fun b o q n _ _=>⟨o.slots,kp b o (fun z=>by rw [z,e] at n;cases n) q⟩,fun b o q n _=>?_,fun b o q _=>?_,fun b xs q=>?_,fun b o v q=>?_,fun b ps q=>?_⟩ ?_
 ·rw [upd_ne (Nat.ne_of_lt (Heap.lt_size q)),upd_ne (fun z=>by rw [z,e] at n;cases n)]
  exact n
 ·by_cases hb:b=p
  ·rw [hb];exact ⟨_,y1⟩
  ·exact ⟨o,kp b o hb q⟩
 ·rw [upd_ne (fun z=>by rw [z,hd] at q;cases q),upd_ne (fun z=>by rw [z,e] at q;cases q)];exact q
 ·rw [upd_ne (fun z=>by rw [z,hd] at q;cases q),upd_ne (fun z=>by rw [z,e] at q;cases q)];exact q
 ·exact ⟨#[],by rw [upd_ne (fun z=>by rw [z,hd] at q;cases q),upd_ne (fun z=>by rw [z,e] at q;cases q),Array.append_empty];exact q⟩
 ·intro a o ha
  by_cases h1:a=hh.objs.size
  ·rw [h1,upd_same] at ha
   cases ha
   rw [h1]
   refine ⟨_,y2,fun g=>?_⟩
   show RelO (([(f,y)]:List (Str×V)).lookup g) (if g=f then some u else none)
   by_cases q:g=f
   ·rw [q,if_pos rfl,List.lookup_cons,beq_self_eq_true]
    exact ry
   ·rw [if_neg q,List.lookup_cons,beq_eq_false_iff_ne.mpr q]
    trivial
  ·rw [upd_ne h1] at ha
   by_cases h2:a=p
   ·rw [h2,upd_same] at ha
    cases ha
    rw [h2]
    exact excO_ok y1
   ·rw [upd_ne h2] at ha
    refine (I.hok a o ha).stay (fun b v hb z=>kp b v (fun zz=>?_) z) (fun b z=>?_) fun b xs z=>?_
    ·rcases hb with r|r
     ·exact h2 (r.symm.trans zz)
     ·rw [zz,e] at r
      cases r
    ·rw [upd_ne (fun zz=>by rw [zz,hd] at z;cases z),upd_ne (fun zz=>by rw [zz,e] at z;cases z)];exact z
    ·rw [upd_ne (fun zz=>by rw [zz,hd] at z;cases z),upd_ne (fun zz=>by rw [zz,e] at z;cases z)];exact z
theorem ps_fldX {C fI:Addr} {o value:Expr} {f:Str} {pos pos':Pos} {ta tv:TE} (ha:PE X o ta) (hv:PE X value tv) (hs:swapsWith value (some (.Attribute o f pos')) pos.line X.env=pure false):PS X (.Assign [.Attribute o f pos'] value pos) (sFldX X.K C fI ta tv f):=by
 intro pins s σ H D I h
 refine plainObj_wpAny_Assign_Attribute (thn (hv pins s σ H _ I h) fun u s1 ⟨y,H1,I1,ry,q⟩=>thn (ha pins s1 σ H1 _ I1 q) fun ov s2 ⟨x,H2,I2,rx,p,tt,ex,ep,k,hB,q2⟩=>?_) hs
 subst ex
 obtain rfl:ov=Value.ref p:=rx
 exact storeX_ok I2 ep k hB ry fun s3 dx hd I3=>⟨σ,_,I3,q2 dx hd⟩
def tMakeX (K:W.Frag) (C fI:Addr) (f:Str) (sp:Sp) (t:TA):TE:=fun σ H Q=>t σ H fun vs H1=>ErrK K C fI f/\vs.length<=100/\∀x tt,H1 x=none->sp (.ref x::vs) (upd H1 x (excO C tt none x)) (fun v H2=>v=.non/\Q (.ref x) H2) E0
theorem pe_makeX {C fI:Addr} {f x:Str} {fd:FuncData} {k:Nat} {ps:List Str} {sp:Sp} {e:Expr} {es:List Expr} {t:TA} {p pos:Pos} (F:FnOk X.prog X.w X.K X.mg X.base CX0 k fI fd ps sp) (hr:Room (k+1) X.A) (hg:Gl X x) (hm:X.mg x=some (.ref C)) (hk:PySem.W.keepIn X.K (.ref C)=true) (hb:Binds X.K fd ps [])
  (ha:PA X (e::es) t) (hdb:(x == ("__debug__":Str))=false:=by decide) (he:starEach (e::es) X.env=(false,eval e X.env)::starEach es X.env:=by rfl) (hpl:(backTo pos (starEach es X.env)).any (·.1)=false:=by rfl):
  PE X (.Call (.Name x p) (e::es) [] pos) (tMakeX X.K C fI f sp t):=by
 intro pins s σ H Q I h
 refine wpAny_Call_Name_kw (ld_glob I hg hm ?_ hdb)
 refine PySem.W.callWith_K (h₀:=X.base) I.ok.mod.kin hk (thn (ha pos pins s σ H _ I h) fun us s1 ⟨vs,H1,I1,r,kE,hlen,q⟩=>⟨I1.kIn,?_⟩) he hpl
 obtain ⟨mN,KC,hi,hns,hga,hgt,hf,oI,hoI,hcI⟩:=kE s1.heap I1.kIn
 obtain ⟨hh,gn,dr,tk,os⟩:=s1
 refine XD.makeX KC hi hoI hcI (by show us.length<=_;rw [<-r.length,sizeLine_eq];omega) fun h' e' M=>?_
 obtain ⟨tt,g1,g2,g3⟩:=M.there
 have hx:H1 e'=none:=free_of I1.hok M.new
 have I2:Inv X pins σ (upd H1 e' (excO C tt none e')) ⟨h',gn,dr,tk,os⟩:=by
  refine Inv.un (t':=tk) I1 ⟨fun b o q n _ _=>M.keeps b o q,fun b o q n _ _=>⟨o.slots,M.keeps b o q⟩,fun b o q n _=>?_,fun b o q _=>⟨o,M.keeps b o q⟩,fun b xs q=>?_,fun b o v q=>?_,fun b ps q=>?_⟩ ?_
  ·rw [upd_ne (fun z=>by rw [z,M.new] at q;cases q)];exact n
  ·rw [upd_ne (fun z=>by rw [z,hx] at q;cases q)];exact q
  ·rw [upd_ne (fun z=>by rw [z,hx] at q;cases q)];exact q
  ·exact ⟨#[],by rw [upd_ne (fun z=>by rw [z,hx] at q;cases q),Array.append_empty];exact q⟩
  ·intro a o ha
   by_cases h1:a=e'
   ·rw [h1,upd_same] at ha
    cases ha
    rw [h1]
    exact excO_ok g1
   ·rw [upd_ne h1] at ha
    refine (I1.hok a o ha).stay (fun b v _ z=>M.keeps b v z) (fun b z=>?_) fun b xs z=>?_
    ·rw [upd_ne (fun zz=>by rw [zz,hx] at z;cases z)];exact z
    ·rw [upd_ne (fun zz=>by rw [zz,hx] at z;cases z)];exact z
 have hsp:=q e' tt hx
 have r2:Vals (V.ref e'::vs) (Value.ref e'::us):=.cons rfl r
 have hl:(Value.ref e'::us++[]).length=ps.length:=by
  have z:=r2.length
  rw [F.len _ _ _ _ hsp] at z
  rw [List.append_nil]
  exact z.symm
 refine wpAny_call (codeAny_mono (F.run _ X.stack _ _ ⟨Value.ref e'::us,[]⟩ (Value.ref e'::us++[]) _ _ E0 (hr.make C us []) (I2.env0.make C us []) (hb _ (Value.ref e'::us) I2.kIn hl) (by rw [List.append_nil];exact r2) hsp) fun rr s' hq'=>?_)
 cases rr with
 |error e=>exact hq'.elim
 |ok fl=>
  cases fl with
  |ret u=>
   obtain ⟨v,H',I3,rv,ev,q3⟩:=I2.after hq'
   subst ev
   exact ⟨rv,⟨V.ref e',H',I3,rfl,q3⟩⟩
  |next=>exact False.elim hq'
  |brk=>exact False.elim hq'
  |cont=>exact False.elim hq'
def tRaise (E:XK) (te:TE):TS:=fun _ σ H=>te σ H fun v H1=>∃p dx C tt,v=.ref p/\H1 p=some (excO C tt (some dx) p)/\E (.ref C) (some dx) (rem H1 p)
theorem ps_raise {C fI:Addr} {f:Str} {e:Expr} {te:TE} {pos:Pos} {E:XK} (kE:ErrK X.K C fI f) (hc:X.calm=true) (hE:RaiseOk X E) (he:PE X e te):PS X (.Raise (some e) none pos) (tRaise (fun c d H=>c=.ref C/\E c d H) te):=by
 intro pins s σ H D I h
 rw [arm_exec_Raise]
 refine wpAny_bind (wpAny_standAt ?_)
 refine XD.raiseX (I.ok.hd hc) (wpAny_bind (thn (he pins s σ H _ I h) fun v s1 ⟨x,H1,I1,rx,p,dx,C',tt,ex,ep,ec,q⟩=>wpAny_bind (wpAny_standAt (wpAny_pure ?_))))
 subst ex
 obtain rfl:v=Value.ref p:=rx
 injection ec with ec
 subst ec
 obtain ⟨mN,KC,hi,hns,hga,hgt,hf,oI,hoI,hcI⟩:=kE s1.heap I1.kIn
 have gp:=excO_get (I1.hok p _ ep)
 exact ⟨p,C',_,_,rfl,KC.obj,gp,rfl,rfl,rfl,hE pins σ p dx C' tt H1 s1 I1 ep q⟩
end
def FlyW (X:Cx) (E:XK):Value->Shared->Prop:=fun e s'=>∃(pins:List (Addr×Obj)) (σ:St) (ea dx C:Addr) (H':Hp),e=.ref ea/\FlyIn X pins σ ea dx C H' s'/\E (.ref C) (some dx) H'
theorem passW {X:Cx} {E:XK}:Passes (CX1 X.prog X.w) (X.wish (FlyW X E)) E:=fun pins σ H s e s' I x=>by
 obtain ⟨ea,dx,C,H',rfl,⟨B,fl,I',fly,ok,kb,pb⟩,q⟩:=fly_in (X:=X.wish (FlyW X E)) I x
 exact ⟨pins,σ,ea,dx,C,H',rfl,⟨B,fl,I'.unwish,fly,ok,kb,pb⟩,q⟩
theorem un_but {X:Cx} {H':Hp} {h g B:Heap} {C:Addr} (ok:X.Ok) (u:Un X.fs [] X.H_0 H' X.s_0.heap h) (st:B.StaysIn g) (kb:∀b o,X.s_0.heap.get? b=some o->X.H_0 b=none->b∉X.fs->B.get? b=some o) (hC:X.s_0.heap.get? C=none)
  (up:∀b o,b≠C->h.get? b=some o->(∀ws,o.data≠.fields ws)->∃sl,g.get? b=some {o with slots:=sl}) (th:∀b o,b≠C->h.get? b=some o->∃o',g.get? b=some o'):Un X.fs [] X.H_0 H' X.s_0.heap g where
 keep:=fun b o e n hb _=>st b o (kb b o e n hb)
 slot:=fun b o e n hb hx=>by
  obtain ⟨sl,e1⟩:=u.slot b o e n hb hx
  obtain ⟨_,o',e2,nf⟩:=ok.funs.mem hb
  rw [e] at e2
  cases e2
  obtain ⟨sl',e3⟩:=up b _ (fun z=>by rw [z,hC] at e;cases e) e1 nf
  exact ⟨sl',e3⟩
 free:=u.free
 there:=fun b o e hx=>by
  obtain ⟨o',e1⟩:=u.there b o e hx
  exact th b o' (fun z=>by rw [z,hC] at e;cases e) e1
 tups:=u.tups
 frzs:=u.frzs
 tbls:=u.tbls
theorem funFrames_but {base base' h h':Heap} {C:Addr} (sb:Heap.SameBut C h h') (hb:∀b,base.get? b=none->base'.get? b=none):∀{l:List Env},h.FunFrames base l->(∀b∈frs l,b≠C)->h'.FunFrames base' l
 |[],_,_=>trivial
 |env::r,⟨hk,⟨L,o,hf,hn,ho,hd⟩,hr⟩,hne=>⟨hk,⟨L,o,hf,hb _ hn,(sb.2 L (hne L (List.mem_filterMap.mpr ⟨env,.head _,hf⟩))).trans ho,hd⟩,funFrames_but sb hb hr fun b hb'=>hne b (by
   obtain ⟨e,he,hq⟩:=List.mem_filterMap.mp hb'
   exact List.mem_filterMap.mpr ⟨e,.tail _ he,hq⟩)⟩
theorem flyD_but {B g h':Heap} {l:List Env} {ea dx C:Addr} {cls fl:Value} {m:Str->Option Value} (y:XD.FlyD B l ea dx cls fl g) (hn:g.Ns C m) (sb:Heap.SameBut C g h') (hne:∀b∈frs l,b≠C):XD.FlyD (PySem.W.hideAll B [C]) l ea dx cls fl h':=by
 obtain ⟨oe,vs,T,oT,ts,he,hc,hdx,hd,h1,hT,hTe,hoT,hdT,h3⟩:=y.ex
 obtain ⟨oC,es,ep,hoC,hdC,_⟩:=hn
 have hn':∀b,B.get? b=none->(PySem.W.hideAll B [C]).get? b=none:=fun b hb=>by
  cases q:(PySem.W.hideAll B [C]).get? b with
  |none=>rfl
  |some o=>rw [PySem.W.of_hideAll _ q] at hb;cases hb
 have eC:ea≠C:=fun z=>by rw [z,hoC] at he;cases he;rw [hdC] at hd;cases hd
 have tC:T≠C:=fun z=>by rw [z,hoC] at hoT;cases hoT;rw [hdC] at hdT;cases hdT
 refine ⟨fun b o q=>?_,hn' _ y.new,funFrames_but sb hn' y.fr hne,oe,vs,T,oT,ts,(sb.2 _ eC).trans he,hc,hdx,hd,h1,hn' _ hT,hTe,(sb.2 _ tC).trans hoT,hdT,h3⟩
 have hb:b≠C:=fun z=>by rw [z,PySem.W.hideAll_none _ (List.mem_singleton.mpr rfl)] at q;cases q
 exact (sb.2 b hb).trans (y.stays b o (PySem.W.of_hideAll _ q))
section
variable {X:Cx}
theorem lc_coreF {L:Addr} {E:XK} {pins:List (Addr×Obj)} {s:Shared} {σ:St} {H:Hp} {Q:VK} {elt tg iter:Expr} {ifs:List Expr} {scope:Scope} {own:List (Str×Nat)} {pos pos':Pos} {wi:TI} {g:TG} {tt:TT} {te:TE} {use:Option (Value->Sem Unit)} {Qf:Value->Shared->Prop}
  (hst:X.stack=X.env::X.outer) (hfr:X.env.frame=some L) (hex:X.ex=[]) (hxe:∀e s',LFly X E e s'->X.xe e s')
  (hc:X.calm=true) (hN:X.N.Nodup) (I:Inv X pins σ H s) (hi:PI X tg iter wi) (ok:BlkOk X.N X.env.scope scope own)
  (hg:∀(s:Shared) (H:Hp) (C:Addr) (cl:List (Str×Addr)) (fp:List Addr),PG (X.blk s H scope (compEnvC scope cl C X.env) fp) tg g) (ht:∀(s:Shared) (H:Hp) (C:Addr) (cl:List (Str×Addr)) (fp:List Addr),PTs (X.blk s H scope (compEnvC scope cl C X.env) fp) ifs tt)
  (he:∀(s:Shared) (H:Hp) (C:Addr) (cl:List (Str×Addr)) (fp:List Addr),PE ((X.blk s H scope (compEnvC scope cl C X.env) fp).wish (FlyW (X.blk s H scope (compEnvC scope cl C X.env) fp) E)) elt te) (hs:∀x,foldedSetIterable iter X.env x=pure x)
  (h:tLc wi g tt te (own.map (·.2)) σ H Q)
  (hRR:∀D C s' m H',Inv X pins σ H' s'->Q (.ref D) H'->s'.heap.Ns C m->FpOk X pins H' C->compPost (model X.prog X.w) X.A X.xe use Qf (.ref D) C (.ok .next) s'):
  wpAny (model X.prog X.w) X.A (comprehension (.ListComp elt [⟨tg,iter,ifs,0⟩] scope pos) scope X.env pos' (newList []) false (eval iter X.env) use) Qf X.xe s:=by
 have hfree:∀y∈scope.names,y.2=.free->∃c,X.env.cells.lookup y.1=some c:=fun y hy e=>by
  rcases ok.free y hy e with k|k
  ·exact I.ok.has _ (.inl k)
  ·exact I.ok.has _ (.inr k)
 refine wpAny_comprehension_free (use:=use) rfl hs (closure_ok hfree) ok.kind (fun y hy e=>by rw [ok.uniq y hy,e])
  (thn (hi pins s σ H _ I h) fun xv s1 hx=>thn hx fun itv s2 h2=>?_)
 obtain ⟨it,fp,tn,J,H2,e,I2,T,st2,f2,q⟩:=h2
 subst e
 refine wpAny_newObj_type (newEnv_comp ?_) (by show 0<=sizeLine;decide)
 generalize hD:s2.heap.objs.size=D
 have hDn:H2 D=none:=I2.hok.fresh (Nat.le_of_eq hD)
 obtain ⟨W,⟨m0,w0⟩,turn⟩:=q D hDn
 generalize hs3:({s2 with heap:=s2.heap.push {cls:=.type "list",data:=.seq ([]:List Value).toArray}}:Shared)=s3
 have I3:Inv X pins σ (upd H2 D (.lst [])) s3:=by
  rw [<-hs3]
  refine I2.laid (t':=s2.toks) (fun b o e=>Heap.get?_push_of_some _ e) (Nat.le_of_eq hD) ⟨Nat.zero_le _,[],0,.nil,?_⟩
  rw [<-hD]
  exact Heap.get?_push_size _ rfl
 have h3:s3.heap=s2.heap.push {cls:=.type "list",data:=.seq ([]:List Value).toArray}:=by rw [<-hs3]
 have sz:∀b∈fp,b < s2.heap.objs.size:=fun b hb=>by
  obtain ⟨o,e,_⟩:=T.obj _ _ st2 b hb
  exact Heap.lt_size e
 have f3:∀b∈fp,FpOk X pins (upd H2 D (.lst [])) b/\b < s3.heap.objs.size:=fun b hb=>by
  have hlt:=sz b hb
  refine ⟨⟨?_,(f2 b hb).2⟩,by rw [h3,Heap.size_push];exact Nat.lt_succ_of_lt hlt⟩
  rw [upd_ne (by rw [<-hD];exact Nat.ne_of_lt hlt)]
  exact (f2 b hb).1
 have st3:tn 0 s3.heap:=T.keep _ _ _ st2 fun b _ o e=>by rw [h3];exact Heap.get?_push_of_some _ e
 have I4:=block_start I3 ok hN f3
 have pg:=hg s3 (upd H2 D (.lst [])) s3.heap.objs.size (cellsFrom (s3.heap.objs.size+1) scope.names (cloFrom X.env.cells scope.names [])) fp
 have pt:=ht s3 (upd H2 D (.lst [])) s3.heap.objs.size (cellsFrom (s3.heap.objs.size+1) scope.names (cloFrom X.env.cells scope.names [])) fp
 have pe:=he s3 (upd H2 D (.lst [])) s3.heap.objs.size (cellsFrom (s3.heap.objs.size+1) scope.names (cloFrom X.env.cells scope.names [])) fp
 show codeAny _ _ (.compStart (.ListComp elt [⟨tg,iter,ifs,0⟩] scope pos) 0 (.ref it) (.ref D) (compEnvC scope (cellsFrom (s3.heap.objs.size+1) scope.names (cloFrom X.env.cells scope.names [])) s3.heap.objs.size X.env)) (compPost (model X.prog X.w) X.A X.xe use Qf (.ref D) s3.heap.objs.size) {s3 with heap:=pushCells (s3.heap.push {cls:=.type "dict",data:=.dict #[]}) scope.names}
 have nfp:∀b∈fp,(upd H2 D (.lst [])) b=none:=fun b hb=>(f3 b hb).1.1
 generalize hce:compEnvC scope (cellsFrom (s3.heap.objs.size+1) scope.names (cloFrom X.env.cells scope.names [])) s3.heap.objs.size X.env=ce at I4 pg pt pe ⊢
 have cL:ce.locals=s3.heap.objs.size:=by subst hce;rfl
 have cF:ce.frame=X.env.frame:=by subst hce;rfl
 generalize hH3:upd H2 D (.lst [])=H3 at I3 I4 pg pt pe w0 nfp f3
 generalize hs4:({s3 with heap:=pushCells (s3.heap.push {cls:=.type "dict",data:=.dict #[]}) scope.names}:Shared)=s4 at I4 ⊢
 have st4:tn 0 s4.heap:=T.keep _ _ _ st3 fun b _ o e=>by rw [<-hs4];exact pushCells_keeps _ _ _ _ (Heap.get?_push_of_some _ e)
 have stat:∀{σ':St} {H':Hp} {s':Shared},Inv (X.blk s3 H3 scope ce fp) [] σ' H' s'->(∀b∈fp,H' b=none)->∀b∈fp,FpOk (X.blk s3 H3 scope ce fp) [] H' b:=fun {σ' H' s'} I' hn b hb=>
  ⟨hn b hb,(I'.ok.exf b hb).1,I'.ok.exfs b hb,.inl hb,fun x c e=>(I'.ok.exf b hb).2 x c e,fun p hp=>absurd (show p∈([]:List (Addr×Obj))++[] from hp) (by simp)⟩
 have flies:∀e s',FlyW (X.blk s3 H3 scope ce fp) E e s'->notedBy (model X.prog X.w) X.A ce (fun e s'=>compPost (model X.prog X.w) X.A X.xe use Qf (.ref D) s3.heap.objs.size (.error e) s') e s':=by
  rintro e s' ⟨pins',σ',ea,dx,C',H',rfl,⟨B,fl,I6,fly,okB,kb,pb⟩,hE⟩
  have I7:Inv X pins σ H' s':=I3.call' (ch:=fp) I6.os I6.base I6.hok I6.bare fun b hb=>⟨(f3 b hb).1.2.2.2.1,(f3 b hb).1.2.1,(f3 b hb).1.2.2.2.2.1,(f3 b hb).1.2.2.2.2.2⟩
  obtain ⟨m,hn,_⟩:=I6.loc
  have hn:s'.heap.Ns ce.locals m:=hn
  have hHC:H' ce.locals=none:=I6.free
  rw [cL] at hn hHC
  have hsC:X.s_0.heap.get? s3.heap.objs.size=none:=by
   cases q:X.s_0.heap.get? s3.heap.objs.size with
   |none=>rfl
   |some o=>exact absurd (Heap.lt_size q) (Nat.not_lt.mpr I3.sz)
  have hneC:∀b∈frs X.stack,b≠s3.heap.objs.size:=fun b hb z=>by
   obtain ⟨_,o,e,_⟩:=I3.stack.mem hb
   exact absurd (Heap.lt_size e) (by rw [z];exact Nat.lt_irrefl _)
  have hA:=I3.ok.frames
  rw [hst] at hA
  have fly':XD.FlyD B (X.env::X.outer) ea dx (.ref C') fl s'.heap:=by
   rw [<-hst]
   exact fly
  show wpAny _ _ (noteFrame (.ref ea) ce) _ _ s'
  rw [XD.note_congr cF]
  refine XD.noteD hA hfr fly' fun gg fl' y u=>?_
  have hn2:gg.Ns s3.heap.objs.size m:=by
   obtain ⟨o,es,ep,ho,hd,r⟩:=hn
   obtain ⟨sl,e⟩:=u.up _ o ho (by rw [hd];intro ws z;cases z)
   exact ⟨_,es,ep,e,hd,r⟩
  refine ⟨m,hn2,fun h' sb cenv _=>?_⟩
  rw [<-hst] at y
  have y2:=flyD_but y hn2 sb hneC
  refine XD.passD (s:={s' with heap:=h'}) y2 fun g2 fl2 y3 u3=>?_
  have kb':∀b o,X.s_0.heap.get? b=some o->X.H_0 b=none->b∉X.fs->(PySem.W.hideAll B [s3.heap.objs.size]).get? b=some o:=fun b o e n hb=>by
   refine PySem.W.hideAll_get _ (kb b o (I3.base.keep b o e n hb (by rw [hex];simp)) (I3.base.free b o e n (by rw [hex];simp)) (not_stack I3 e hb) fun z=>?_) fun z=>?_
   ·rcases (f3 b z).1.2.2.2.1 with r|r
    ·rw [hex] at r
     exact absurd r (by simp)
    ·exact absurd (Heap.lt_size e) (Nat.not_lt.mpr r)
   ·rw [List.mem_singleton.mp z,hsC] at e
    cases e
  have un:=I7.base
  rw [hex] at un
  refine hxe _ _ ⟨I3.ok,ea,dx,C',H',_,_,rfl,I7.os,I7.bare,y3,?_,kb',?_,hE⟩
  ·intro a o ha
   refine (okB a o ha).stay (fun b v hb z=>PySem.W.hideAll_get _ z fun zz=>?_) (fun b z=>z) fun b xs z=>z
   have zz:=List.mem_singleton.mp zz
   rcases hb with r|r
   ·rw [<-r,zz,hHC] at ha
    cases ha
   ·rw [zz,hHC] at r
    cases r
  ·refine un_but I3.ok un y3.stays kb' hsC (fun b o hb e nf=>?_) fun b o hb e=>?_
   ·obtain ⟨sl,e1⟩:=u.up b o e nf
    obtain ⟨sl2,e2⟩:=u3.up b _ ((sb.2 b hb).trans e1) nf
    exact ⟨sl2,e2⟩
   ·obtain ⟨o1,e1⟩:=u.there b o e
    exact u3.there b o1 ((sb.2 b hb).trans e1)
 have loop:codeAny (model X.prog X.w) X.A (.compLoop (.ListComp elt [⟨tg,iter,ifs,0⟩] scope pos) 0 (.ref it) (.ref D) ce) (compPost (model X.prog X.w) X.A X.xe use Qf (.ref D) s3.heap.objs.size) s4:=by
  refine compLoop_any (fun n s'=>∃i H',Inv (X.blk s3 H3 scope ce fp) [] (wipe σ (own.map (·.2))) H' s'/\tn i s'.heap/\(∀b∈fp,H' b=none)/\W i n H') ?_ m0 ⟨0,H3,I4,st4,nfp,w0⟩
  rintro n s5 ⟨i,H5,I5,st5,n5,w5⟩
  rcases turn i n H5 w5 with ⟨stop,qq⟩|⟨go,Nx,hNx,step⟩
  ·have td:=T.done (X.blk s3 H3 scope ce fp) rfl rfl rfl hc i [] s5 _ H5 (fun _ _=>False) I5 (stat I5 n5) st5 stop
   refine thnF td fun r s6 ⟨hr,I6⟩=>?_
   subst hr
   have I7:Inv X pins σ H5 s6:=I3.call' (ch:=fp) I6.os I6.base I6.hok I6.bare fun b hb=>⟨(f3 b hb).1.2.2.2.1,(f3 b hb).1.2.1,(f3 b hb).1.2.2.2.2.1,(f3 b hb).1.2.2.2.2.2⟩
   have nC:H5 s3.heap.objs.size=none:=by
    have z:H5 ce.locals=none:=I6.free
    rw [cL] at z
    exact z
   obtain ⟨m,hn,_⟩:=I6.loc
   have hn:s6.heap.Ns ce.locals m:=hn
   rw [cL] at hn
   exact hRR D s3.heap.objs.size s6 m H5 I7 qq hn (I3.fpOk (Nat.le_refl _) nC)
  ·have ti:=T.item (X.blk s3 H3 scope ce fp) rfl rfl rfl hc i [] s5 _ H5 (fun _ _=>False) I5 (stat I5 n5) st5 go
   refine thnF ti fun r s6 ⟨u,hr,h6⟩=>?_
   subst hr
   refine thnF h6 fun _ s7 ⟨x,H7,I7,r7,y7,st7,n7⟩=>?_
   have I7':=I7.pinned (stat I7 n7) (T.obj _ _ st7)
   refine thnF (pg _ s7 _ H7 x u _ I7' r7 (step x H7 y7)) fun _ s8 ⟨σ8,H8,I8,hw8,q8⟩=>?_
   refine thnF (pt _ s8 σ8 H8 _ I8 q8) fun b s9 ⟨H9,I9,q9⟩=>?_
   have fin:∀{s':Shared} {H':Hp},Inv (X.blk s3 H3 scope ce fp) ([]++pinsAt fp s7.heap) σ8 H' s'->Nx H'->∃m,m < n/\∃i H',Inv (X.blk s3 H3 scope ce fp) [] (wipe σ (own.map (·.2))) H' s'/\tn i s'.heap/\(∀b∈fp,H' b=none)/\W i m H':=fun {s' H'} I' nx=>by
    obtain ⟨m',hm,w'⟩:=hNx H' nx
    have pin':∀b∈fp,∀o,s7.heap.get? b=some o->s'.heap.get? b=some o/\H' b=none:=fun b hb o e=>
     let z:=I'.pin (b,o) (List.mem_append_right _ (List.mem_append_right _ (mem_pinsAt hb e)))
     ⟨z.1,z.2.1⟩
    have hl:(wipe σ (own.map (·.2))).length=σ8.length:=by rw [<-hw8,wipe_length]
    refine ⟨m',hm,i+1,H',(I'.unpinned (pins:=[])).weak hl (fun j v e=>?_),T.keep _ _ _ st7 fun b hb o e=>(pin' b hb o e).1,fun b hb=>?_,w'⟩
    ·rw [<-hw8] at e
     exact (wipe_some e).1
    ·obtain ⟨o,e,_⟩:=T.obj _ _ st7 b hb
     exact (pin' b hb o e).2
   cases b with
   |false=>
    simp only [Bool.false_eq_true,if_false] at q9 ⊢
    exact fin I9 q9
   |true=>
    simp only [if_true] at q9 ⊢
    refine wpAny_mono (pe _ s9 σ8 H9 _ (I9.wish _) q9) (fun z s10 ⟨yv,H10,I10,r10,acc,hD10,hz10,nx⟩=>?_) flies
    exact app_ok (X:=X.blk s3 H3 scope ce fp) I10.unwish hD10 hz10 r10 fun s11 I11=>fin I11 nx
 exact codeAny_compStart_list loop (T.self X.A 0 _ _ _ st4 loop)
theorem ps_setLcF {L:Addr} {E:XK} {i:Nat} {y:Str} {py:Pos} {elt tg iter:Expr} {ifs:List Expr} {scope:Scope} {own:List (Str×Nat)} {pos spos:Pos} {wi:TI} {g:TG} {tt:TT} {te:TE}
  (hst:X.stack=X.env::X.outer) (hfr:X.env.frame=some L) (hex:X.ex=[]) (hxe:∀e s',LFly X E e s'->X.xe e s') (hc:X.calm=true) (hN:X.N.Nodup) (hy:X.N[i]?=some y) (hyl:X.env.scope.names.lookup y=some .local)
  (hsw:swapsWith (.ListComp elt [⟨tg,iter,ifs,0⟩] scope pos) (some (.Name y py)) spos.line X.env=pure true) (hi:PI X tg iter wi) (ok:BlkOk X.N X.env.scope scope own)
  (hg:∀(s:Shared) (H:Hp) (C:Addr) (cl:List (Str×Addr)) (fp:List Addr),PG (X.blk s H scope (compEnvC scope cl C X.env) fp) tg g) (ht:∀(s:Shared) (H:Hp) (C:Addr) (cl:List (Str×Addr)) (fp:List Addr),PTs (X.blk s H scope (compEnvC scope cl C X.env) fp) ifs tt)
  (he:∀(s:Shared) (H:Hp) (C:Addr) (cl:List (Str×Addr)) (fp:List Addr),PE ((X.blk s H scope (compEnvC scope cl C X.env) fp).wish (FlyW (X.blk s H scope (compEnvC scope cl C X.env) fp) E)) elt te) (hs:∀x,foldedSetIterable iter X.env x=pure x:=by intro _;rfl):
  PS X (.Assign [.Name y py] (.ListComp elt [⟨tg,iter,ifs,0⟩] scope pos) spos) (tAsg (tLc wi g tt te (own.map (·.2))) (gName i)):=by
 intro pins s σ H D I h
 rw [exec_Assign_Name_used _ _ _ _ hsw]
 refine wpAny_bind (wpAny_standAt (wpAny_bind ?_))
 show wpAny _ X.A (do let _ <-comprehension (.ListComp elt [⟨tg,iter,ifs,0⟩] scope pos) scope X.env (firstIterPos [⟨tg,iter,ifs,0⟩] pos) (newList []) false (eval iter X.env) (some (assign (.Name y py) X.env))) _ _ s
 have h:tLc wi g tt te (own.map (·.2)) σ H (fun x H1=>gName i x σ H1 D.nx):=h
 refine wpAny_bind (thn (lc_coreF (Qf:=fun _ s'=>SP X pins D .next s') hst hfr hex hxe hc hN I hi ok hg ht he hs h fun L C s' m H' I' q hn f=>?_) fun _ s' hq=>wpAny_pure (wpAny_pure hq))
 show wpAny _ _ (assign (.Name y py) X.env (.ref L)) _ _ _
 refine wpAny_assign_Name (store_ok2 (v:=V.ref L) I' hN hy (.inl hyl) rfl (fun s2 I2 ⟨a,sb,ha⟩=>?_) (.inr hyl))
 obtain ⟨f0,f1,f2,f3,f4,f5⟩:=f
 have haC:C≠a:=by
  rcases ha with z|z
  ·rw [z];exact f1
  ·exact fun e=>f4 y a z e.symm
 refine ⟨m,hn.sameBut sb haC,fun h3 sb3=>?_⟩
 exact ⟨_,H',I2.turned (t':=s2.toks) (fun b o hb e=>(sb3.2 b hb).trans e) f0 f1 f3 f4 f5,q⟩
end
section
variable {X:Cx} {pins:List (Addr×Obj)} {σ:St} {H H':Hp} {s:Shared}
theorem Inv.lose {h':Heap} {m':Str->Option Value} {t':Nat} (I:Inv X pins σ H s) (hn:h'.Ns X.env.locals m') (sb:Heap.SameBut X.env.locals s.heap h'):Inv X pins (List.replicate X.N.length none) H {s with heap:=h',toks:=t'}:=by
 have nl:∀b o,X.s_0.heap.get? b=some o->b≠X.env.locals:=fun b o e z=>absurd (Heap.lt_size e) (by rw [z];exact Nat.not_lt.mpr I.ok.above)
 refine ⟨I.ok,I.os,I.bare,⟨fun b o e n hb hx=>(sb.2 b (nl b o e)).trans (I.base.keep b o e n hb hx),fun b o e n hb hx=>?_,I.base.free,fun b o e hx=>?_,I.base.tups,I.base.frzs,I.base.tbls⟩,⟨m',hn,fun i x v _ e=>?_⟩,fun x c e=>?_,I.free,I.freeC,fun p hp=>?_,fun a o ha=>?_,List.length_replicate⟩
 ·obtain ⟨sl,z⟩:=I.base.slot b o e n hb hx
  exact ⟨sl,(sb.2 b (nl b o e)).trans z⟩
 ·obtain ⟨o',z⟩:=I.base.there b o e hx
  exact ⟨o',(sb.2 b (nl b o e)).trans z⟩
 ·rw [List.getElem?_replicate] at e
  split at e <;> cases e
 ·obtain ⟨v,o,ho,hd⟩:=I.cell x c e
  exact ⟨v,o,(sb.2 c (I.cne x c e)).trans ho,hd⟩
 ·obtain ⟨e1,e2,e3,e4⟩:=I.pin p hp
  exact ⟨(sb.2 p.1 e3).trans e1,e2,e3,e4⟩
 ·refine (I.hok a o ha).stay (fun b u hb z=>(sb.2 b fun zz=>?_).trans z) (fun b z=>z) fun b xs z=>z
  rcases hb with r|r
  ·rw [<-r,zz,I.free] at ha
   cases ha
  ·rw [zz,I.free] at r
   cases r
theorem Inv.caught {B g:Heap} {ea dx C:Addr} {fl:Value} (I:Inv X pins σ H' s) (hex:X.ex=[]) (y:XD.FlyD B X.stack ea dx (.ref C) fl g) (u:XD.Up s.heap g) (ok:HOk X.prog X.w H' B)
  (kb:∀b o,X.s_0.heap.get? b=some o->X.H_0 b=none->b∉X.fs->b∉X.ex->B.get? b=some o) (pb:∀p∈X.pn++pins,B.get? p.1=some p.2):H' ea=none/\Inv X pins σ (upd H' ea (excH C dx ea)) {s with heap:=g}:=by
 obtain ⟨oe,vs,T,oT,ts,he,hc,hdx,hd,_⟩:=y.ex
 have hea:H' ea=none:=free_of ok y.new
 refine ⟨hea,?_⟩
 have kb':∀b o,X.s_0.heap.get? b=some o->X.H_0 b=none->b∉X.fs->B.get? b=some o:=fun b o e n hb=>kb b o e n hb (by rw [hex];simp)
 have hb:=I.base
 rw [hex] at hb
 have un:=un_up I.ok hb y.stays kb' u
 have nea:∀b o,g.get? b=some o->(∀ws,o.data≠.fields ws)->b≠ea:=fun b o e nf z=>by
  rw [z,he] at e
  cases e
  exact nf vs hd
 obtain ⟨m,⟨oL,es,ep,hoL,hdL,rL⟩,hl⟩:=I.loc
 obtain ⟨slL,hL⟩:=u.up _ oL hoL (by rw [hdL];intro ws z;cases z)
 have cellUp:∀c v,s.heap.IsCell c v->g.IsCell c v:=fun c v ⟨o,e,d⟩=>by
  obtain ⟨sl,e2⟩:=u.up c o e (by rw [d];intro ws z;cases z)
  exact ⟨_,e2,d⟩
 have ne_loc:X.env.locals≠ea:=nea _ _ hL (by show ∀ws,oL.data≠_;rw [hdL];intro ws z;cases z)
 refine ⟨I.ok,I.os,I.bare,?_,⟨m,⟨_,es,ep,hL,hdL,rL⟩,fun i x v e1 e2 e3=>?_⟩,fun x c e=>?_,?_,fun x c e=>?_,fun p hp=>?_,fun a o ha=>?_,I.len⟩
 ·rw [hex]
  refine ⟨un.keep,un.slot,fun b o e n hx=>?_,un.there,fun b xs e=>?_,fun b o v e=>?_,fun b ps e=>?_⟩
  ·have hb0:=un.free b o e n hx
   rw [upd_ne ?_]
   ·exact hb0
   ·intro z
    by_cases hbf:b∈X.fs
    ·obtain ⟨sl,e1⟩:=un.slot b o e n hbf (by simp)
     obtain ⟨_,o',e2,nf⟩:=I.ok.funs.mem hbf
     rw [e] at e2
     cases e2
     exact nea b _ e1 nf z
    ·have:=kb' b o e n hbf
     rw [z,y.new] at this
     cases this
  ·have z:=un.tups b xs e
   rw [upd_ne (fun zz=>by rw [zz,hea] at z;cases z)]
   exact z
  ·have z:=un.frzs b o v e
   rw [upd_ne (fun zz=>by rw [zz,hea] at z;cases z)]
   exact z
  ·obtain ⟨more,z⟩:=un.tbls b ps e
   exact ⟨more,by rw [upd_ne (fun zz=>by rw [zz,hea] at z;cases z)];exact z⟩
 ·obtain ⟨w,r,q⟩:=hl i x v e1 e2 e3
  refine ⟨w,r,?_⟩
  rcases q with q|⟨k,c,e,z⟩
  ·exact .inl q
  ·exact .inr ⟨k,c,e,cellUp c _ z⟩
 ·obtain ⟨v,z⟩:=I.cell x c e
  exact ⟨v,cellUp c v z⟩
 ·show upd H' ea _ X.env.locals=none
  rw [upd_ne ne_loc]
  exact I.free
 ·rw [upd_ne ?_]
  ·exact I.freeC x c e
  ·obtain ⟨v,z⟩:=I.cell x c e
   obtain ⟨o,e1,e2⟩:=cellUp c v z
   exact nea c o e1 (by rw [e2];intro ws q;cases q)
 ·obtain ⟨e1,e2,e3,e4⟩:=I.pin p hp
  have hB:=pb p hp
  have hne:p.1≠ea:=fun z=>by rw [z,y.new] at hB;cases hB
  exact ⟨y.stays _ _ hB,by rw [upd_ne hne];exact e2,e3,e4⟩
 ·by_cases h1:a=ea
  ·rw [h1,upd_same] at ha
   cases ha
   rw [h1]
   exact excH_ok he hc hdx hd
  ·rw [upd_ne h1] at ha
   refine (ok a o ha).stay (fun b v _ z=>y.stays b v z) (fun b z=>?_) fun b xs z=>?_
   ·rw [upd_ne (fun zz=>by rw [zz,hea] at z;cases z)];exact z
   ·rw [upd_ne (fun zz=>by rw [zz,hea] at z;cases z)];exact z
end
abbrev Cx.pnd (X:Cx) (pn:List (Addr×Obj)):Cx:={X with pn:=pn}
abbrev Cx.hdl (X:Cx) (ea:Addr):Cx:={X with A:=X.A.mark (some (.ref ea)),calm:=false,xe:=fun _ _=>False}
section
variable {X:Cx} {pins:List (Addr×Obj)} {σ:St} {H H':Hp} {s:Shared}
theorem Cx.Ok.pnd (ok:X.Ok) (pn:List (Addr×Obj)):(X.pnd pn).Ok:=⟨ok.mod,ok.kind,ok.glob,ok.blt,ok.above,ok.inj,ok.has,ok.cab,ok.hd,ok.frames,ok.stk,ok.exf,ok.bs,ok.bsz,ok.noex,ok.exfs,ok.funs,ok.frf⟩
theorem Cx.Ok.unpnd {pn:List (Addr×Obj)} (ok:(X.pnd pn).Ok):X.Ok:=⟨ok.mod,ok.kind,ok.glob,ok.blt,ok.above,ok.inj,ok.has,ok.cab,ok.hd,ok.frames,ok.stk,ok.exf,ok.bs,ok.bsz,ok.noex,ok.exfs,ok.funs,ok.frf⟩
theorem Cx.Ok.hdl (ok:X.Ok) (ea:Addr):(X.hdl ea).Ok:=⟨ok.mod,ok.kind,ok.glob,ok.blt,ok.above,ok.inj,ok.has,ok.cab,fun z=>(nomatch z),ok.frames,ok.stk,ok.exf,ok.bs,ok.bsz,ok.noex,ok.exfs,ok.funs,ok.frf⟩
theorem Inv.pnd (I:Inv X pins σ H s):Inv (X.pnd (X.pn++pins)) [] σ H s:=⟨I.ok.pnd _,I.os,I.bare,I.base,I.loc,I.cell,I.free,I.freeC,fun p hp=>I.pin p (by simpa using hp),I.hok,I.len⟩
theorem Inv.unpnd {pins':List (Addr×Obj)} (I:Inv (X.pnd (X.pn++pins)) pins' σ H s):Inv X pins σ H s:=⟨I.ok.unpnd,I.os,I.bare,I.base,I.loc,I.cell,I.free,I.freeC,fun p hp=>I.pin p (List.mem_append_left _ hp),I.hok,I.len⟩
theorem Inv.hdl (I:Inv X pins σ H s) (ea:Addr):Inv (X.hdl ea) pins σ H s:=⟨I.ok.hdl ea,I.os,I.bare,I.base,I.loc,I.cell,I.free,I.freeC,I.pin,I.hok,I.len⟩
theorem Inv.unhdl {ea:Addr} (I:Inv (X.hdl ea) pins σ H s) (ok:X.Ok):Inv X pins σ H s:=⟨ok,I.os,I.bare,I.base,I.loc,I.cell,I.free,I.freeC,I.pin,I.hok,I.len⟩
def EH (C:Addr) (ie:Nat) (Q:VK) (th:Addr->TS):XK:=fun c d H'=>c=.ref C/\∃dx,d=some dx/\∀(ea:Addr) (σ':St),H' ea=none->ie < σ'.length->th ea {nx:=fun _ _=>False,rt:=Q} (σ'.set ie (some (.ref ea))) (upd H' ea (excH C dx ea))
def tTry (Q:VK) (tb:TS):TS:=fun D σ H=>(∀v H',Q v H'->D.rt v H')/\tb D σ H
theorem ps_try {L C fI:Addr} {f:Str} {ie:Nat} {Q:VK} {body:List Stmt} {b0:Stmt} {suite:List Stmt} {x n:Str} {xp pos hpos:Pos} {tb:TS} {th:Addr->TS}
  (hst:X.stack=X.env::X.outer) (hfr:X.env.frame=some L) (hex:X.ex=[]) (hN:X.N.Nodup) (hi:X.N[ie]?=some n) (hl:X.env.scope.names.lookup n=some .local) (hg:Gl X x) (hm:X.mg x=some (.ref C)) (kE:ErrK X.K C fI f)
  (hb:∀pn,PSs ((X.pnd pn).wish (FlyW (X.pnd pn) (EH C ie Q th))) body tb) (hh:∀ea,PSs (X.hdl ea) (b0::suite) (th ea)) (hdb:(x == ("__debug__":Str))=false:=by decide):
  PS X (.Try body [.ExceptHandler (some (.Name x xp)) (some n) (b0::suite) hpos] [] [] pos) (tTry Q tb):=by
 intro pins s σ H D I h
 obtain ⟨hQ,h⟩:=h
 refine wpAny_Try_except (wpAny_mono (hb (X.pn++pins) [] s σ H D (I.pnd.wish _) h) (fun f s1 q=>?_) fun e s1 q=>?_)
 ·cases f with
  |next=>
   obtain ⟨σ',H',I',q⟩:=q
   exact wpAny_execs_nil ⟨σ',H',I'.unwish.unpnd,q⟩
  |brk=>obtain ⟨σ',H',I',q⟩:=q;exact ⟨σ',H',I'.unwish.unpnd,q⟩
  |cont=>obtain ⟨σ',H',I',q⟩:=q;exact ⟨σ',H',I'.unwish.unpnd,q⟩
  |ret v=>obtain ⟨w,σ',H',I',r,q⟩:=q;exact ⟨w,σ',H',I'.unwish.unpnd,r,q⟩
 ·obtain ⟨pins',σ',ea,dx,C',H',rfl,⟨B,fl,I1,fly,ok,kb,pb⟩,hc,dx',hdx,hth⟩:=q
  injection hc with hc
  subst hc
  injection hdx with hdx
  subst hdx
  have hA:=I1.ok.frames
  have hA':X.A.frames=some (X.env::X.outer):=by rw [<-hst];exact hA
  have fly':XD.FlyD B (X.env::X.outer) ea dx (.ref C') fl s1.heap:=by rw [<-hst];exact fly
  refine XD.noteD hA' hfr fly' fun g1 fl1 y1 u1=>?_
  refine XD.flightD (s:={s1 with heap:=g1}) y1 fun g2 y2 u2=>?_
  rw [<-hst] at y2
  obtain ⟨hea,I2⟩:=I1.caught hex y2 (u1.trans u2) ok kb pb
  have I2':Inv (X.hdl ea) pins σ' (upd H' ea (excH C' dx ea)) {s1 with heap:=g2}:=I2.unpnd.hdl ea
  obtain ⟨mN,KC,hiN,hns,hga,hgt,hf,oI,hoI,hcI⟩:=kE g2 I2'.kIn
  obtain ⟨oe,vs,T,oT,ts,he,hcl,hdxx,hd,_⟩:=id y2.ex
  refine wpAny_handleBy_cons (codeAny_handlers_test (ld_glob (X:=X.hdl ea) I2' hg hm ?_ hdb)) (by intro q;cases q)
  refine XD.matchX KC.obj he hcl ?_
  refine codeAny_handlers_suite_as (XD.flightD (s:={s1 with heap:=g2}) y2 fun g3 y3 u3=>?_)
  obtain ⟨_,I3⟩:=I1.caught hex y3 ((u1.trans u2).trans u3) ok kb pb
  have I3':Inv (X.hdl ea) pins σ' (upd H' ea (excH C' dx ea)) {s1 with heap:=g3}:=I3.unpnd.hdl ea
  have hie:ie < σ'.length:=by rw [I3'.len];exact (List.getElem?_eq_some_iff.mp hi).1
  refine store_ok (X:=X.hdl ea) (v:=V.ref ea) I3' hN hi (.inl hl) rfl (fun s4 I4=>?_) (.inr hl)
  refine wpAny_mono (hh ea pins s4 _ _ _ I4 (hth ea σ' hea hie)) (fun fw s5 q5=>?_) fun _ _ z=>z.elim
  cases fw with
  |next=>obtain ⟨_,_,_,z⟩:=q5;exact z.elim
  |brk=>obtain ⟨_,_,_,z⟩:=q5;exact z.elim
  |cont=>obtain ⟨_,_,_,z⟩:=q5;exact z.elim
  |ret v=>
   obtain ⟨w,σ5,H5,I5,r5,q5⟩:=q5
   obtain ⟨m5,hn5,_⟩:=I5.loc
   refine wpAny_nameGoes (env:=X.env) hl hn5 (by rw [I.ok.kind];rfl) fun h' m' hn' sb=>?_
   exact ⟨w,_,H5,(I5.lose hn' sb).unhdl I.ok,r5,hQ w H5 q5⟩
def tFldX (K:W.Frag) (C fI:Addr) (to:TE) (f:Str):TE:=fun σ H Q=>to σ H fun x H1=>∃p dx fs v,x=.ref p/\H1 p=some (excH C dx p)/\ErrK K C fI f/\typeLookup (.type "Exception") f=pure none/\H1 dx=some (.xd fs)/\fs.lookup f=some v/\Q v H1
theorem pe_fldX {C fI:Addr} {fn:Str} {e:Expr} {ta:TE} {pos:Pos} (he:PE X e ta) (hb:attributeBase e fn X.env (eval e X.env)=eval e X.env):PE X (.Attribute e fn pos) (tFldX X.K C fI ta fn):=by
 intro pins s σ H Q I h
 refine attr_of hb (thn (he pins s σ H _ I h) fun u s1 ⟨x,H1,I1,rx,p,dx,fs,v,ex,ep,kE,hB,ed,l,q⟩=>?_)
 subst ex
 obtain rfl:u=Value.ref p:=rx
 obtain ⟨mN,KC,hi,hns,hga,hgt,hf,oI,hoI,hcI⟩:=kE s1.heap I1.kIn
 obtain ⟨⟨oe,vs,ge,hc,hdx,hd⟩,_⟩:=I1.hok p _ ep
 obtain ⟨mA,ns,r⟩:=I1.hok dx _ ed
 have rv:=r fn
 rw [l] at rv
 obtain ⟨hh,gn,dr,tk,os⟩:=s1
 cases hv:mA fn with
 |none=>rw [hv] at rv;exact rv.elim
 |some u'=>
  rw [hv] at rv
  refine XD.loadX KC hga hgt hf hB ge hc hd hdx ns hv ?_ ?_
  ·exact PySem.W.handedOut_of (handed_of rv)
  ·exact ⟨v,H1,I1.tok _,rv,q⟩
end
structure RoomH (k:Nat) (A:Around):Prop where
 dp:A.depth+3*k+5 < recursionLimit
 un:A.units+16*k+200 < cLine
structure FnOkH (P:Program) (w:World) (K:W.Frag) (mg:Str->Option Value) (base:Heap) (k:Nat) (f:Addr) (fd:FuncData) (ps:List Str) (sp:Sp):Prop where
 len:∀vs H Q E,sp vs H Q E->vs.length=ps.length
 run:∀(A:Around) (outer:List Env) (s:Shared) (H:Hp) (args:Args) (us:List Value) (vs:List V) (Q:VK) (E:XK),RoomH k A->Env0 P w K mg base A outer s H->BindsTo s fd args (ps.zip us)->Vals vs us->sp vs H Q E->
  codeAny (model P w) A (.call (.ref f) args) (CR CX0 outer P w H s Q E) s
abbrev cxH (P:Program) (w:World) (K:W.Frag) (mg:Str->Option Value) (base:Heap) (N:List Str) (qual:Str) (scope:Scope) (f:Addr) (cd:Value) (A:Around) (outer:List Env) (s:Shared) (H:Hp) (E:XK):Cx:=
 {cxOf CX0 P w K mg base N qual scope f cd A outer s H E with calm:=false,xe:=fun _ _=>False}
section
variable {P:Program} {w:World} {K:W.Frag} {mg:Str->Option Value} {base:Heap}
theorem Fun.okH {x qual:Str} {st:Stmt} {f:Addr} {fd:FuncData} {N ps:List Str} {k:Nat} {sp:Sp} (F:Fun K x qual st f fd) (S:FnScope N ps (defScope st)) (len:∀vs H Q E,sp vs H Q E->vs.length=ps.length)
  (hbody:∀(cdv:Value) (A:Around) (outer:List Env) (s:Shared) (H:Hp) (vs:List V) (Q:VK) (E:XK),sp vs H Q E->
   ∃t,PSs (cxH P w K mg base N qual (defScope st) f cdv A outer s H E) (defBody st) t/\t {nx:=fun _ H'=>Q .non H',rt:=Q} (start N vs) H):FnOkH P w K mg base (k+1) f fd ps sp:=by
 obtain ⟨oc,od,kV,doc,pm,an,cdv,ct,osl,rfl,lk,hcd⟩:=F.ex
 refine ⟨len,fun A outer s H args us vs Q E hr e0 hb r hsp=>?_⟩
 have hl:=len _ _ _ _ hsp
 have KX:K.In s.heap:=e0.mod.kin.keeps fun b o e=>(e0.bs b o e).1
 have lim:s.heap.NoLimit:=e0.mod.nolimit.keeps fun b o e=>(e0.bs b o e).1
 have hkind:∀y∈ps.zip us,(defScope st).names.lookup y.1=some .local\/((defScope st).names.lookup y.1=some .cell/\((cellsFrom (s.heap.objs.size+1) (defScope st).names []).lookup y.1).isSome=true):=fun ⟨n,v⟩ hy=>by
  rcases S.par n (List.of_mem_zip hy).1 with q|q
  ·exact .inl q
  ·exact .inr ⟨q,PySem.W.cellsFrom_some _ _ _ (.inl q)⟩
 refine codeAny_call_function (by have:=hr.dp;omega) (KX _ _ lk) rfl S.co S.gen rfl (PySem.W.codeRec_of KX hcd) (hb _ _ _ _ ?_)
 refine wpAny_newFunctionEnv_cells S.kind hkind fun env he s1 x=>?_
 subst he
 refine ⟨lim.keeps x.toInCall.keep,codeAny_func ?_⟩
 obtain ⟨t,ht,hq⟩:=hbody cdv A outer s H vs Q E hsp
 have e0':Env0 P w K mg base {A with handled:=none} outer s H:=⟨e0.frames,e0.mod,e0.bs,e0.bsz,e0.funs,e0.frf,e0.hok,e0.bare⟩
 have I0:Inv (cxOf CX0 P w K mg base N qual (defScope st) f cdv {A with handled:=none} outer s H E) [] (start N vs) H s1:=inv_start S rfl e0' hl r x
 have ok0:=I0.ok
 have okH:(cxH P w K mg base N qual (defScope st) f cdv A outer s H E).Ok:=⟨ok0.mod,ok0.kind,ok0.glob,ok0.blt,ok0.above,ok0.inj,ok0.has,ok0.cab,fun z=>(nomatch z),ok0.frames,ok0.stk,ok0.exf,ok0.bs,ok0.bsz,ok0.noex,ok0.exfs,ok0.funs,ok0.frf⟩
 have I:Inv (cxH P w K mg base N qual (defScope st) f cdv A outer s H E) [] (start N vs) H s1:=⟨okH,I0.os,I0.bare,I0.base,I0.loc,I0.cell,I0.free,I0.freeC,I0.pin,I0.hok,I0.len⟩
 refine wpAny_mono (ht [] s1 (start N vs) H _ I hq) (fun fl s' hs=>?_) fun e s' hs=>hs.elim
 have fin:∀{σ':St} {H':Hp} {v:V} {u:Value},Inv (cxH P w K mg base N qual (defScope st) f cdv A outer s H E) [] σ' H' s'->RelV v u->Q v H'->CE outer P w H s Q u s':=
  fun {σ' H' v u} J rv q=>⟨v,H',J.os,J.bare,J.base,J.hok,rv,q⟩
 cases fl with
 |ret u=>
  obtain ⟨v,σ',H',J,rv,q⟩:=hs
  exact fin J rv q
 |next=>
  obtain ⟨σ',H',J,q⟩:=hs
  exact fin (v:=V.non) (u:=Value.none) J rfl q
 |brk=>
  obtain ⟨_,_,_,q⟩:=hs
  exact False.elim q
 |cont=>
  obtain ⟨_,_,_,q⟩:=hs
  exact False.elim q
end
section
variable {X:Cx} {k:Nat} {f:Addr} {fd:FuncData} {ps:List Str} {sp:Sp} {x:Str} {p pos:Pos} {e:Expr} {es:List Expr} {t:TA}
theorem pe_callH (F:FnOkH X.prog X.w X.K X.mg X.base k f fd ps sp) (hr:RoomH k X.A) (hg:Gl X x) (hm:X.mg x=some (.ref f)) (hk:PySem.W.keepIn X.K (.ref f)=true) (hb:Binds X.K fd ps [])
  (ha:PA X (e::es) t) (hdb:(x == ("__debug__":Str))=false:=by decide) (he:starEach (e::es) X.env=(false,eval e X.env)::starEach es X.env:=by rfl) (hpl:(backTo pos (starEach es X.env)).any (·.1)=false:=by rfl):
  PE X (.Call (.Name x p) (e::es) [] pos) (tCall sp [] E0 t):=by
 intro pins s σ H Q I h
 refine wpAny_Call_Name_kw (ld_glob I hg hm ?_ hdb)
 refine PySem.W.callWith_K (h₀:=X.base) I.ok.mod.kin hk (thn (ha pos pins s σ H _ I h) fun us s1 ⟨vs,H1,I1,r,q⟩=>⟨I1.kIn,?_⟩) he hpl
 have r2:Vals (vs++[]) (us++[]):=r.append .nil
 have hl:(us++[]).length=ps.length:=by rw [<-r2.length];exact F.len _ _ _ _ q
 refine wpAny_call (codeAny_mono (F.run X.A X.stack s1 H1 ⟨us,[]⟩ (us++[]) (vs++[]) Q E0 hr I1.env0 (hb s1 us I1.kIn hl) r2 q) fun rr s' hq=>?_)
 cases rr with
 |error e=>exact hq.elim
 |ok fl=>
  cases fl with
  |ret u=>exact I1.after hq
  |next=>exact False.elim hq
  |brk=>exact False.elim hq
  |cont=>exact False.elim hq
end
theorem Room.mark {k:Nat} {A:Around} {h:Option Value} (r:Room k A) (hk:1<=k):RoomH 1 (A.mark h):=⟨by have:=r.dp;show A.depth+3*1+5 < _;omega,by have:=r.un;show A.units+16*1+200 < _;omega⟩
theorem scB {N P:List Str} {sc:Scope} (a:sc.kind=.function:=by exact rfl) (b:sc.isCoroutine=false:=by exact rfl) (c:sc.isGenerator=false:=by exact rfl) (d:N.Nodup:=by decide+kernel) (e:N.take P.length=P:=by exact rfl) (f:∀x∈P,sc.names.lookup x=some .local\/sc.names.lookup x=some .cell:=by decide+kernel) (g:∀y∈sc.names,y.2≠.free:=by decide+kernel):FnScope N P sc:=⟨a,b,c,d,e,f,g⟩
theorem dT {p:Prop} [Decidable p]:(decide p=true)=p:=decide_eq_true_eq
theorem dF {p:Prop} [Decidable p]:(decide p=false)=¬p:=propext decide_eq_false_iff_not
theorem rm {j k:Nat} {A:Around} (r:Room k A) (h:j<=k:=by decide):Room j A:=r.mono h
theorem Fun.okA {P:Program} {w:World} {K:W.Frag} {mg:Str->Option Value} {base:Heap} {x qual:Str} {st:Stmt} {f:Addr} {fd:FuncData} {N ps:List Str} {k:Nat} {sp:Sp} (F:Fun K x qual st f fd) (S:FnScope N ps (defScope st))
  (hbody:∀(cdv:Value) (A:Around) (outer:List Env) (s:Shared) (H:Hp) (vs:List V) (Q:VK) (E:XK),Room k (A.deeper (envOfC qual (defScope st) s.heap.objs.size f cdv))->sp vs H Q E->
   ∃t,PSs (cxOf CX0 P w K mg base N qual (defScope st) f cdv A outer s H E).nox (defBody st) t/\t {nx:=fun _ H'=>Q .non H',rt:=Q} (start N vs) H)
  (len:∀vs H Q E,sp vs H Q E->vs.length=ps.length:=by (intro vs H Q E h;(repeat (obtain ⟨_,h⟩:=h));subst_vars;rfl)):FnOk P w K mg base CX0 (k+1) f fd ps sp:=F.ok S len hbody
theorem ins_getR {P:Program} {w:World} {H:Hp} {h:Heap} {a C dx:Addr} {fs:List (Str×V)} (hok:HOk P w H h) (e:Rd H a (.ins C dx fs)):∃mA,ObjM h a dx C mA/\(∀f,RelO (fs.lookup f) (mA f)):=by
 obtain ⟨d,z,ne,ob,mA,n,r,q⟩:=(show ObjOk P w H h a (.ins C dx fs) from e.ok hok)
 exact ⟨mA,⟨ob,n,ne⟩,r⟩
section
variable {X:Cx} {pins:List (Addr×Obj)} {σ:St} {H:Hp} {s:Shared} {a C dx:Addr} {fs:List (Str×V)} {f:Str} {v:V} {A:Around} {E:Value->Shared->Prop}
theorem getattr_okR {b:Bool} {Q:Value->Shared->Prop} (I:Inv X pins σ H s) (e:Rd H a (.ins C dx fs)) (c:Cls X.K C) (n:NoAttr X.K C f) (l:fs.lookup f=some v)
  (h:∀u s',Inv X pins σ H s'->RelV v u->Q u s'):wpAny (model X.prog X.w) A (getAttr (.ref a) f b) Q E s:=by
 obtain ⟨mA,O,r⟩:=ins_getR I.hok e
 obtain ⟨u,hu,ru⟩:=RelO.some_of (v:=v) (o:=mA f) (by rw [<-l];exact r f)
 exact get_map I.kIn O (c.get f) c.hd n hu (handed_of ru) (h u _ (I.tok _) ru)
theorem getmeth_okR {m:Str} {g:Addr} {pl:Sem Bool} {Q:Value×List Value->Shared->Prop} (I:Inv X pins σ H s) (e:Rd H a (.ins C dx fs)) (c:Cls X.K C) (k:Meth X.K C m g) (l:fs.lookup m=none)
  (h:Q (.ref g,[.ref a]) s):wpAny (model X.prog X.w) A (getMethod (.ref a) m pl) Q E s:=by
 obtain ⟨mA,O,r⟩:=ins_getR I.hok e
 have hn:mA m=none:=RelO.none_of (by rw [<-l];exact r m)
 exact get_meth I.kIn O (c.get m) k.at_ k.fn hn h
end
def tFldR (K:W.Frag) (ta:TE) (f:Str):TE:=fun σ H Q=>ta σ H fun x H1=>∃a C dx fs v,x=.ref a/\Rd H1 a (.ins C dx fs)/\Cls K C/\NoAttr K C f/\fs.lookup f=some v/\Q v H1
def tMethR (C:Addr) (m:Str) (sp:Sp) (dvs:List V) (E:XK) (ta:TE) (t:TA):TE:=fun σ H Q=>ta σ H fun x H1=>∃a dx fs,x=.ref a/\Rd H1 a (.ins C dx fs)/\fs.lookup m=none/\
 t σ H1 fun vs H2=>sp (x::(vs++dvs)) H2 Q E
section
variable {X:Cx} {CX:CXT} {k:Nat} {f C:Addr} {fd:FuncData} {ps:List Str} {sp:Sp} {dvs:List V} {ds:List Value} {E:XK} {x m:Str} {p pos apos:Pos} {e o:Expr} {es:List Expr} {ta:TE} {t:TA}
theorem pe_fldR {fn:Str} (he:PE X e ta) (hb:attributeBase e fn X.env (eval e X.env)=eval e X.env):PE X (.Attribute e fn pos) (tFldR X.K ta fn):=by
 intro pins s σ H Q I h
 refine attr_of hb (thn (he pins s σ H _ I h) fun u s1 ⟨x,H1,I1,rx,a,C,dx,fs,v,ex,ea,c,n,l,q⟩=>?_)
 subst ex
 obtain rfl:u=Value.ref a:=rx
 exact getattr_okR I1 ea c n l fun u' s2 I2 ru=>⟨v,H1,I2,ru,q⟩
theorem pe_methR {pl:Sem Bool} (he:PE X o ta) (c:Cls X.K C) (hm:Meth X.K C m f) (F:FnOk X.prog X.w X.K X.mg X.base CX k f fd ps sp) (hr:Room k X.A) (hb:Binds X.K fd ps ds) (hd:Vals dvs ds) (hx:Passes CX X E) (ha:PA X (e::es) t)
  (hst:starEach (e::es) X.env=(false,eval e X.env)::starEach es X.env:=by rfl) (hpl:(backTo pos (starEach es X.env)).any (·.1)=false:=by rfl)
  (ht:eval (.Call (.Attribute o m apos) (e::es) [] pos) X.env=(do
   let ov <-eval o X.env
   standAt apos.atName
   let (f,first) <-holding [ov] (getMethod ov m pl)
   callWith pos f first (backTo pos (starEach (e::es) X.env)) (backToKw pos (keywordEach [] X.env))):=by rfl):
  PE X (.Call (.Attribute o m apos) (e::es) [] pos) (tMethR C m sp dvs E ta t):=by
 intro pins s σ H Q I h
 refine PySem.W.methodCall_KW (pl:=pl) (thn (he pins s σ H _ I h) fun u s1 ⟨x,H1,I1,rx,a,dx,fs,ex,ea,l,q⟩=>?_) ht
 subst ex
 obtain rfl:u=Value.ref a:=rx
 refine getmeth_okR I1 ea c hm l ?_
 refine PySem.W.callWith_K (first:=[.ref a]) (h₀:=X.base) I.ok.mod.kin hm.kp (thn (ha pos pins s1 σ H1 _ I1 q) fun us s2 ⟨vs,H2,I2,r,q2⟩=>⟨I2.kIn,?_⟩) hst hpl
 exact run_fn (us:=.ref a::us) (vs:=.ref a::vs) F hr hb hd hx I2 (.cons rfl r) q2
theorem pe_meth0R {pl:Sem Bool} (he:PE X o ta) (c:Cls X.K C) (hm:Meth X.K C m f) (F:FnOk X.prog X.w X.K X.mg X.base CX k f fd ps sp) (hr:Room k X.A) (hb:Binds X.K fd ps ds) (hd:Vals dvs ds) (hx:Passes CX X E)
  (ht:eval (.Call (.Attribute o m apos) [] [] pos) X.env=(do
   let ov <-eval o X.env
   standAt apos.atName
   let (f,first) <-holding [ov] (getMethod ov m pl)
   callWith pos f first (backTo pos (starEach [] X.env)) (backToKw pos (keywordEach [] X.env))):=by rfl):
  PE X (.Call (.Attribute o m apos) [] [] pos) (tMethR C m sp dvs E ta tNil):=by
 intro pins s σ H Q I h
 refine PySem.W.methodCall_KW (pl:=pl) (thn (he pins s σ H _ I h) fun u s1 ⟨x,H1,I1,rx,a,dx,fs,ex,ea,l,q⟩=>?_) ht
 subst ex
 obtain rfl:u=Value.ref a:=rx
 refine getmeth_okR I1 ea c hm l ?_
 exact PySem.W.callWith_K0 (first:=[.ref a]) I1.kIn hm.kp (run_fn (us:=[.ref a]) (vs:=[.ref a]) F hr hb hd hx I1 (.cons rfl .nil) q)
theorem pe_cmeth {pl:Sem Bool} {mc:Value} (hg:Gl X x) (hm:X.mg x=some (.ref C)) (hga:PySem.W.specialIn X.K (.ref C) "__getattribute__"=some (some (.builtin "type.__getattribute__"))) (hrd:PySem.W.readsIn X.K C mc=true)
  (hf:PySem.W.findCls X.K (.ref C) mc m=some (.val (.ref f))) (hk:PySem.W.keepIn X.K (.ref f)=true) (F:FnOk X.prog X.w X.K X.mg X.base CX k f fd ps sp) (hr:Room k X.A) (hb:Binds X.K fd ps ds) (hd:Vals dvs ds) (hx:Passes CX X E) (ha:PA X (e::es) t)
  (hdb:(x == ("__debug__":Str))=false:=by decide) (hst:starEach (e::es) X.env=(false,eval e X.env)::starEach es X.env:=by rfl) (hpl:(backTo pos (starEach es X.env)).any (·.1)=false:=by rfl)
  (ht:eval (.Call (.Attribute (.Name x p) m apos) (e::es) [] pos) X.env=(do
   let ov <-eval (.Name x p) X.env
   standAt apos.atName
   let (f,first) <-holding [ov] (getMethod ov m pl)
   callWith pos f first (backTo pos (starEach (e::es) X.env)) (backToKw pos (keywordEach [] X.env))):=by rfl):
  PE X (.Call (.Attribute (.Name x p) m apos) (e::es) [] pos) (tCall sp dvs E t):=by
 intro pins s σ H Q I h
 refine PySem.W.methodCall_KW (pl:=pl) (ld_glob I hg hm ?_ hdb) ht
 refine PySem.W.method_cls I.kIn hga (PySem.W.cls_value I.kIn hrd hf rfl ?_)
 have I1:=I.tok (s.toks+1)
 refine PySem.W.callWith_K (first:=[]) (h₀:=X.base) I.ok.mod.kin hk (thn (ha pos pins _ σ H _ I1 h) fun us s2 ⟨vs,H2,I2,r,q2⟩=>⟨I2.kIn,?_⟩) hst hpl
 exact run_fn F hr hb hd hx I2 r q2
def tCallV (i:Nat) (f:Addr) (sp:Sp) (dvs:List V) (E:XK) (t:TA):TE:=fun σ H Q=>σ[i]?=some (some (.ref f))/\t σ H fun vs H1=>sp (vs++dvs) H1 Q E
theorem pe_callV {i:Nat} (F:FnOk X.prog X.w X.K X.mg X.base CX k f fd ps sp) (hr:Room k X.A) (hN:X.N[i]?=some x) (hv:Vis X.env.scope x) (hk:PySem.W.keepIn X.K (.ref f)=true) (hb:Binds X.K fd ps ds) (hd:Vals dvs ds) (hx:Passes CX X E)
  (ha:PA X (e::es) t) (hdb:(x == ("__debug__":Str))=false:=by decide) (hcd:(x == ("__classdict__":Str))=false:=by decide) (he:starEach (e::es) X.env=(false,eval e X.env)::starEach es X.env:=by rfl) (hpl:(backTo pos (starEach es X.env)).any (·.1)=false:=by rfl):
  PE X (.Call (.Name x p) (e::es) [] pos) (tCallV i f sp dvs E t):=by
 intro pins s σ H Q I h
 obtain ⟨h0,h⟩:=h
 have hv':=pe_var (pos:=p) hN hv hdb hcd pins s σ H (fun v H1=>v=.ref f/\H1=H) I ⟨_,h0,rfl,rfl⟩
 refine wpAny_Call_Name_kw (thn hv' fun u s1 ⟨v,H1,I1,rv,ev,eH⟩=>?_)
 subst ev
 subst eH
 obtain rfl:u=Value.ref f:=rv
 refine PySem.W.callWith_K (h₀:=X.base) I.ok.mod.kin hk (thn (ha pos pins s1 σ H1 _ I1 h) fun us s1 ⟨vs,H1,I1,r,q⟩=>⟨I1.kIn,?_⟩) he hpl
 exact run_fn F hr hb hd hx I1 r q
def tFrz (t:TE):TE:=fun σ H Q=>t σ H fun v H1=>∃a u,v=.ref a/\H1 a=some u/\Mut (some u)/\∀od,Q v (upd H1 a (.frz od u))
theorem pe_frz {t:TE} (h:PE X e t):PE X e (tFrz t):=by
 intro pins s σ H Q I hw
 refine thn (h pins s σ H _ I hw) fun v s1 ⟨x,H1,I1,r,a,u,ex,ha,mu,q⟩=>?_
 obtain ⟨od,I2⟩:=I1.lock ha mu
 exact ⟨x,_,I2,r,q od⟩
theorem pe_gint {i:Int} (hg:Gl X x) (hm:∃t,X.mg x=some (.int i t)) (hd:(x == ("__debug__":Str))=false:=by decide):PE X (.Name x pos) (tC (.int i)):=by
 obtain ⟨t,hm⟩:=hm
 exact pe_glob hg hm ⟨t,rfl⟩ hd
theorem pe_gref {a:Addr} (hg:Gl X x) (hm:X.mg x=some (.ref a)) (hd:(x == ("__debug__":Str))=false:=by decide):PE X (.Name x pos) (tC (.ref a)):=pe_glob hg hm rfl hd
end
theorem relV_abs {u:Value} {x:V} (h:absV u=some x):RelV x u:=by
 cases u <;> simp [absV] at h <;> subst h <;> first|rfl|exact ⟨_,rfl⟩
theorem vals_abs:∀{us:List Value} {xs:List V},us.map absV=xs.map some->Vals xs us
 |[],[],_=>.nil
 |[],_::_,h=>by simp at h
 |_::_,[],h=>by simp at h
 |u::us,x::xs,h=>by
  simp only [List.map_cons,List.cons.injEq] at h
  exact .cons (relV_abs h.1) (vals_abs h.2)
theorem sqT_of {K:W.Frag} {H:Hp} {a:Addr} {xs:List V} {od:Option Addr} {its:Array Value} {n:Nat} {sl:Array (Option Value)} (l:K.lookup a=some ⟨.type "tuple",od,.seq its n,sl⟩) (c:its.toList.map absV=xs.map some) (z:its.size<=sizeLine):SqT K H a xs:=
 .inr ⟨_,its,n,l,rfl,rfl,z,vals_abs c⟩
def entOk (kv:Int×V) (e:DictEntry):Bool:=match e.key with
 |.int i _=>decide (i=kv.1)&&(decide (e.hash=hashInt kv.1)&&decide (absV e.val=some kv.2))
 |_=>false
def entsOk:List (Int×V)->List DictEntry->Bool
 |[],[]=>true
 |kv::kvs,e::es=>entOk kv e&&entsOk kvs es
 |_,_=>false
theorem entOk_of {kv:Int×V} {e:DictEntry} (h:entOk kv e=true):(∃t,e.key=.int kv.1 t)/\e.hash=hashInt kv.1/\RelV kv.2 e.val:=by
 unfold entOk at h
 split at h
 ·rename_i i t hk
  simp only [Bool.and_eq_true,decide_eq_true_eq] at h
  obtain ⟨rfl,h2,h3⟩:=h
  exact ⟨⟨t,hk⟩,h2,relV_abs h3⟩
 ·cases h
structure DKI (K:W.Frag) (a:Addr) (kvs:List (Int×V)):Prop where
 sm:(a == sysModules)=false
 ex:∃(es:List DictEntry) (ep:Nat),K.lookup a=some ⟨.type "dict",none,.dict es.toArray ep,#[]⟩/\entsOk kvs es=true
 nd:(kvs.map (·.1)).Nodup
def look (kvs:List (Int×V)) (k:Int):Option V:=(kvs.find? fun kv=>decide (kv.1=k)).map (·.2)
theorem ents_pairs {P:Program} {w:World}:∀{kvs:List (Int×V)} {es:List DictEntry},entsOk kvs es=true->∃vs:List (Int×Value),Pairs (intKind P w) es vs/\KV kvs vs/\∀e∈es,∃k,(intKind P w).is k e.key=true/\e.hash=(intKind P w).hash k
 |[],[],_=>⟨[],.nil,.nil,fun e h=>absurd h (by simp)⟩
 |[],_::_,h=>by simp [entsOk] at h
 |_::_,[],h=>by simp [entsOk] at h
 |kv::kvs,e::es,h=>by
  have h':(entOk kv e&&entsOk kvs es)=true:=h
  rw [Bool.and_eq_true] at h'
  obtain ⟨vs,p,r,q⟩:=ents_pairs (P:=P) (w:=w) h'.2
  obtain ⟨⟨t,hk⟩,hh,hv⟩:=entOk_of h'.1
  have his:(intKind P w).is kv.1 e.key=true:=by
   rw [hk]
   show Value.isInt kv.1 (.int kv.1 t)=true
   simp [Value.isInt]
  refine ⟨(kv.1,e.val)::vs,.cons his rfl p,.cons ⟨rfl,hv⟩ r,fun e' he=>?_⟩
  rcases List.mem_cons.mp he with rfl|he
  ·exact ⟨kv.1,his,hh⟩
  ·exact q e' he
theorem DKI.dict {X:Cx} {pins:List (Addr×Obj)} {σ:St} {H:Hp} {s:Shared} {a:Addr} {kvs:List (Int×V)} (D:DKI X.K a kvs) (I:Inv X pins σ H s):∃vs:List (Int×Value),KV kvs vs/\s.heap.DictOf (intKind X.prog X.w) a vs:=by
 obtain ⟨es,ep,l,c⟩:=D.ex
 obtain ⟨vs,p,r,q⟩:=ents_pairs (P:=X.prog) (w:=X.w) c
 refine ⟨vs,r,_,es.toArray,ep,I.kIn a _ l,⟨rfl,rfl,rfl⟩,rfl,fun e he=>q e (by simpa using he),by simpa using p,?_⟩
 rw [<-r.keys]
 exact D.nd
theorem KV.look {kvs:List (Int×V)} {vs:List (Int×Value)} (r:KV kvs vs) (k:Int):RelO (look kvs k) (valueAt vs k):=KV.val r k
def tKGet (K:W.Frag) (td ty:TE):TE:=fun σ H Q=>td σ H fun x H1=>ty σ H1 fun y H2=>∃a kvs k v,x=.ref a/\DKI K a kvs/\y=.int k/\look kvs k=some v/\Q v H2
def tKIn (K:W.Frag) (ty td:TE):TE:=fun σ H Q=>ty σ H fun y H1=>td σ H1 fun x H2=>∃a kvs k,x=.ref a/\DKI K a kvs/\y=.int k/\Q (.bl (look kvs k).isSome) H2
section
variable {X:Cx} {o i:Expr} {pos:Pos} {td ty:TE}
theorem pe_kget (ho:PE X o td) (hi:PE X i ty) (hs:NoSl i):PE X (.Subscript o i pos) (tKGet X.K td ty):=by
 intro pins s σ H Q I h
 refine subD_of PySem.F.slot_dict_getitem.lookup hs (thn (ho pins s σ H _ I h) fun u s1 ⟨x,H1,I1,rx,q1⟩=>thn (hi pins s1 σ H1 _ I1 q1) fun iv s2 ⟨y,H2,I2,ry,a,kvs,k,v,ex,D,ey,l,q2⟩=>?_)
 subst ex
 subst ey
 obtain rfl:u=Value.ref a:=rx
 obtain ⟨t,rfl⟩:∃t,iv=Value.int k t:=ry
 obtain ⟨vs,r,dd⟩:=D.dict I2
 obtain ⟨w',hw,rw'⟩:=RelO.some_of (v:=v) (o:=valueAt vs k) (by rw [<-l];exact r.look k)
 exact ⟨dd.typeIs,wpAny_getItem_of (knd:=intKind X.prog X.w) (show Value.isInt k (.int k t)=true by simp [Value.isInt]) dd.mapOf hw ⟨v,H2,I2.tok _,rw',q2⟩⟩
theorem pc_kin (hi:PE X i ty) (ho:PE X o td):PC X .In i o (tKIn X.K ty td):=by
 intro pins s σ H Q I h
 refine thn (hi pins s σ H _ I h) fun iv s1 ⟨y,H1,I1,ry,q1⟩=>thn (ho pins s1 σ H1 _ I1 q1) fun u s2 ⟨x,H2,I2,rx,a,kvs,k,ex,D,ey,q2⟩=>?_
 subst ex
 subst ey
 obtain rfl:u=Value.ref a:=rx
 obtain ⟨t,rfl⟩:∃t,iv=Value.int k t:=ry
 obtain ⟨vs,r,dd⟩:=D.dict I2
 refine wpAny_in_of (knd:=intKind X.prog X.w) (show Value.isInt k (.int k t)=true by simp [Value.isInt]) D.sm dd.mapOf ?_
 rw [<-(r.look k).isSome_eq]
 exact ⟨.bl (look kvs k).isSome,H2,I2.tok _,rfl,q2⟩
end
def Imm:HO->Prop
 |.frz _ _=>True
 |.tup _=>True
 |_=>False
def Keep (F:List Addr) (H H':Hp):Prop:=∀b o,H b=some o->(b∉F\/Imm o)->H' b=some o
def Fz (H:Hp) (a:Addr) (u:HO):Prop:=∃o,H a=some (.frz o u)
section
variable {F G:List Addr} {H H1 H2:Hp} {a:Addr} {o u:HO}
theorem Keep.refl:Keep F H H:=fun _ _ h _=>h
theorem Keep.trans (x:Keep F H H1) (y:Keep F H1 H2):Keep F H H2:=fun b o h c=>y b o (x b o h c) c
theorem Keep.mono (x:Keep F H H1) (h:∀b∈F,b∈G):Keep G H H1:=fun b o e c=>x b o e (c.elim (fun n=>.inl fun z=>n (h b z)) .inr)
theorem Keep.same (x:Keep [] H H1):Same H H1:=fun b o e=>x b o e (.inl (by simp))
theorem Same.keep (x:Same H H1):Keep F H H1:=fun b o e _=>x b o e
theorem Keep.frz (x:Keep F H H1) {w:Obj} (e:H a=some (.frz w u)):H1 a=some (.frz w u):=x _ _ e (.inr trivial)
theorem Keep.fz (x:Keep F H H1) (e:Fz H a u):Fz H1 a u:=let ⟨w,e⟩:=e;⟨w,x.frz e⟩
theorem Keep.tup (x:Keep F H H1) {xs:List V} (e:H a=some (.tup xs)):H1 a=some (.tup xs):=x _ _ e (.inr trivial)
theorem Keep.at_ (x:Keep F H H1) (e:H a=some u) (n:a∉F):H1 a=some u:=x _ _ e (.inl n)
theorem Keep.set (e:H a=some u) (n:¬Imm u) (m:a∈F):Keep F H (upd H a o):=fun b o' h c=>by
 have hb:b≠a:=fun z=>by
  rw [z] at h c
  rw [h] at e
  cases e
  exact c.elim (fun q=>q m) n
 rw [upd_ne hb]
 exact h
theorem Keep.new (e:H a=none):Keep F H (upd H a o):=fun b o' h _=>by
 rw [upd_ne (ne_of_none h e)]
 exact h
theorem Keep.young (x:Keep F H H1) (e:H a=none):Keep F H (upd H1 a o):=fun b o' h c=>by
 rw [upd_ne (ne_of_none h e)]
 exact x b o' h c
theorem Keep.young2 (x:Keep F H H1) (y:Keep G H1 H2) (h:∀b∈G,b∈F\/H b=none):Keep F H H2:=fun b o e c=>y b o (x b o e c) (by
 rcases c with c|c
 ·refine .inl fun z=>?_
  rcases h b z with q|q
  ·exact c q
  ·rw [e] at q
   cases q
 ·exact .inr c)
theorem Keep.some (x:Keep F H H1) (n:a∉F) (h:H1 a=none):H a=none:=by
 cases q:H a with
 |none=>rfl
 |some o=>
  rw [x.at_ q n] at h
  cases h
theorem Fz.sqL {K:W.Frag} {xs:List V} (e:Fz H a (.lst xs)):SqL K H a xs:=let ⟨w,e⟩:=e;.inl (.inr ⟨w,e⟩)
theorem Fz.rd (e:Fz H a u):Rd H a u:=let ⟨w,e⟩:=e;.inr ⟨w,e⟩
theorem Fz.ne {b:Addr} {v:HO} (e:Fz H a u) (f:H b=some v) (n:¬Imm v):a≠b:=fun z=>by
 obtain ⟨w,e⟩:=e
 rw [z,f] at e
 cases e
 exact n trivial
end
theorem for_rev {K:W.Frag} {a:Addr} {xs:List V} {g:TG} {tb:TS} {D:Ends} {σ:St} {H:Hp} (Pv:Nat->St->Hp->Prop) (h0:Pv 0 σ H) (hl:∀i σ H,i<=xs.length->Pv i σ H->SqL K H a xs)
  (hs:∀i x σ H,i < xs.length->xs[xs.length - 1 - i]?=some x->Pv i σ H->g x σ H fun σ2 H2=>tb {D with nx:=Pv (i+1),ct:=Pv (i+1),bk:=D.nx} σ2 H2) (hd:∀σ H,Pv xs.length σ H->D.nx σ H):
  ∃W:Nat->Nat->St->Hp->Prop,(∃m,W 0 m σ H)/\∀i m σ H,W i m σ H->
   ((Itv K a xs.length).stop i H/\D.nx σ H)\/((Itv K a xs.length).go i H/\∃N:St->Hp->Prop,(∀σ' H',N σ' H'->∃m',m' < m/\W (i+1) m' σ' H')/\∀x H',(Itv K a xs.length).yld i H x H'->g x σ H' fun σ2 H2=>tb {D with nx:=N,ct:=N,bk:=D.nx} σ2 H2):=by
 refine ⟨fun i m σ H=>m=xs.length - i/\i<=xs.length/\Pv i σ H,⟨xs.length,by simp,Nat.zero_le _,h0⟩,?_⟩
 rintro i m σ H ⟨rfl,hi,p⟩
 have q:=hl i σ H hi p
 by_cases hlt:i < xs.length
 ·refine .inr ⟨⟨hlt,xs,xs[xs.length - 1 - i]'(by omega),q,List.getElem?_eq_getElem (by omega)⟩,Pv (i+1),fun σ' H' p'=>⟨xs.length - (i+1),by omega,rfl,hlt,p'⟩,fun x H' y=>?_⟩
  obtain ⟨e,y⟩:=y
  subst e
  exact hs i x σ _ hlt (y xs q) p
 ·have e:i=xs.length:=by omega
  subst e
  exact .inl ⟨Nat.le_refl _,hd σ H p⟩
theorem lc_rangeC {lo c:Int} {n:Nat} {g:TG} {tt:TT} {te:TE} {vs:List Nat} {σ:St} {H1:Hp} {D:Addr} {Qd:Hp->Prop} (Pv:Nat->Hp->Prop) (h0:Pv 0 (upd H1 D (.lst [])))
  (hs:∀i H,i < n->Pv i H->g (.int (lo+(i:Nat)*c)) (wipe σ vs) H fun σ2 H2=>wipe σ2 vs=wipe σ vs/\tt σ2 H2 fun b H3=>
   if b=true then te σ2 H3 fun y H4=>∃acc,H4 D=some (.lst acc)/\acc.length < sizeLine/\Pv (i+1) (upd H4 D (.lst (acc++[y]))) else Pv (i+1) H3) (hd:∀H,Pv n H->Qd H):
  ∃W:Nat->Nat->Hp->Prop,(∃m,W 0 m (upd H1 D (.lst [])))/\∀i m H,W i m H->
   ((Itc lo c n).stop i H/\Qd H)\/((Itc lo c n).go i H/\∃Nx:Hp->Prop,(∀H',Nx H'->∃m',m' < m/\W (i+1) m' H')/\∀x H',(Itc lo c n).yld i H x H'->g x (wipe σ vs) H' fun σ2 H2=>wipe σ2 vs=wipe σ vs/\tt σ2 H2 fun b H3=>
    if b=true then te σ2 H3 fun y H4=>∃acc,H4 D=some (.lst acc)/\acc.length < sizeLine/\Nx (upd H4 D (.lst (acc++[y]))) else Nx H3):=by
 refine ⟨fun i m H=>m=n - i/\i<=n/\Pv i H,⟨n,by simp,Nat.zero_le _,h0⟩,?_⟩
 rintro i m H ⟨rfl,hi,p⟩
 by_cases hlt:i < n
 ·refine .inr ⟨hlt,Pv (i+1),fun H' p'=>⟨n - (i+1),by omega,rfl,hlt,p'⟩,fun x H' y=>?_⟩
  obtain ⟨e,y⟩:=y
  subst e y
  exact hs i _ hlt p
 ·have e:i=n:=by omega
  subst e
  exact .inl ⟨Nat.le_refl _,hd H p⟩
theorem lc_zip {K:W.Frag} {a b:Addr} {xs ys:List V} {g:TG} {tt:TT} {te:TE} {vs:List Nat} {σ:St} {H1:Hp} {D:Addr} {Qd:Hp->Prop} (Pv:Nat->Hp->Prop) (h0:Pv 0 (upd H1 D (.lst []))) (hxy:xs.length=ys.length)
  (hl:∀i H,i<=xs.length->Pv i H->SqL K H a xs/\SqL K H b ys)
  (hs:∀i x y H T,xs[i]?=some x->ys[i]?=some y->Pv i H->H T=none->g (.ref T) (wipe σ vs) (upd H T (.tup [x,y])) fun σ2 H2=>wipe σ2 vs=wipe σ vs/\tt σ2 H2 fun b H3=>
   if b=true then te σ2 H3 fun y H4=>∃acc,H4 D=some (.lst acc)/\acc.length < sizeLine/\Pv (i+1) (upd H4 D (.lst (acc++[y]))) else Pv (i+1) H3) (hd:∀H,Pv xs.length H->Qd H):
  ∃W:Nat->Nat->Hp->Prop,(∃m,W 0 m (upd H1 D (.lst [])))/\∀i m H,W i m H->
   ((Itz K a b).stop i H/\Qd H)\/((Itz K a b).go i H/\∃Nx:Hp->Prop,(∀H',Nx H'->∃m',m' < m/\W (i+1) m' H')/\∀x H',(Itz K a b).yld i H x H'->g x (wipe σ vs) H' fun σ2 H2=>wipe σ2 vs=wipe σ vs/\tt σ2 H2 fun b H3=>
    if b=true then te σ2 H3 fun y H4=>∃acc,H4 D=some (.lst acc)/\acc.length < sizeLine/\Nx (upd H4 D (.lst (acc++[y]))) else Nx H3):=by
 refine ⟨fun i m H=>m=xs.length - i/\i<=xs.length/\Pv i H,⟨xs.length,by simp,Nat.zero_le _,h0⟩,?_⟩
 rintro i m H ⟨rfl,hi,p⟩
 obtain ⟨q1,q2⟩:=hl i H hi p
 by_cases hlt:i < xs.length
 ·refine .inr ⟨⟨xs,ys,xs[i],ys[i]'(by omega),q1,q2,List.getElem?_eq_getElem hlt,List.getElem?_eq_getElem (by omega)⟩,Pv (i+1),fun H' p'=>⟨xs.length - (i+1),by omega,rfl,hlt,p'⟩,fun v H' y=>?_⟩
  obtain ⟨T,x,y',rfl,hT,rfl,e1,e2⟩:=y
  exact hs i x y' H T (e1 xs q1) (e2 ys q2) p hT
 ·have e:i=xs.length:=by omega
  subst e
  exact .inl ⟨⟨xs,ys,q1,q2,.inl (Nat.le_refl _)⟩,hd H p⟩
theorem bx (a b:Nat):Builtin.bitXor (a:Int) (b:Int)=((a ^^^ b:Nat):Int):=by
 rw [Bits.bitXor_pp (Int.natCast_nonneg a) (Int.natCast_nonneg b)]
 rfl
theorem bo1 (a:Nat):Builtin.bitOr (a:Int) 1=((a / 2*2+1:Nat):Int):=by
 have h:=Bits.bitOr_pp (x:=(a:Int)) (y:=1) (Int.natCast_nonneg a) (by decide)
 rw [h]
 congr 1
 show a|||1=_
 have h2:a|||1=a / 2*2+1:=by
  apply Nat.eq_of_testBit_eq
  intro i
  rw [Nat.testBit_or]
  cases i with
  |zero=>simp [Nat.testBit_zero]
  |succ i=>
   rw [Nat.testBit_succ,Nat.testBit_succ,Nat.testBit_succ]
   have e1:(a / 2*2+1) / 2=a / 2:=by omega
   rw [e1]
   simp
 exact h2
theorem bam (k a:Nat):Builtin.bitAnd (a:Int) ((2 ^ k - 1:Int))=((a % 2 ^ k:Nat):Int):=by
 rw [Bits.bitAnd_mask k (Int.natCast_nonneg a),Int.natCast_emod]
 simp
theorem ba255 (a:Nat):Builtin.bitAnd (a:Int) 255=((a % 256:Nat):Int):=bam 8 a
theorem ba1 (a:Nat):Builtin.bitAnd (a:Int) 1=((a % 2:Nat):Int):=bam 1 a
section
variable {X:Cx} (K:W.Frag)
theorem ixL (e:X.K=K:=by rfl):IxR X (rIxL K):=e ▸ ix_list
theorem ixT (e:X.K=K:=by rfl):IxR X (rIxT K):=e ▸ ix_tup
theorem slL (e:X.K=K:=by rfl):SlR X (rSlL K):=e ▸ sl_list
theorem inS (e:X.K=K:=by rfl):OpR X (compareOp .In) (rIn K false):=e ▸ op_in_seq
theorem lenS (e:X.K=K:=by rfl):CallR X (.builtin "len") (fun xs H Q=>∃p ys,xs=[.ref p]/\(SqL K H p ys\/SqT K H p ys)/\Q (.int ys.length) H):=e ▸ call_len_seq
theorem listS (e:X.K=K:=by rfl):CallR X (.type "list") (fun xs H Q=>∃p ys,xs=[.ref p]/\(SqL K H p ys\/SqT K H p ys)/\∀l,H l=none->Q (.ref l) (upd H l (.lst ys))):=e ▸ call_list_of
theorem anyS (hc:X.calm=true:=by rfl) (e:X.K=K:=by rfl):CallR X (.builtin "any") (rAny K):=e ▸ cr_any hc
theorem neD (hu:X.A.units+64 < cLine) (e:X.K=K:=by rfl):OpR X (compareOp .NotEq) (rNeD K):=e ▸ op_neD hu
theorem gTupK {es:List Expr} {k:Nat} {t:TGs} {n:Nat} {pos:Pos} (h:PGs X es t) (hc:X.calm=true:=by rfl)
  (hn:(assignEach es X.env).length=n:=by rfl) (hst:(assignEach es X.env).findIdx? (·.1)=none:=by rfl) (e:X.K=K:=by rfl):PG X (.Tuple es k pos) (gTup K n t):=e ▸ pg_tup hc h hn hst
theorem fldK {e:Expr} {fn:Str} {pos:Pos} {ta:TE} (he:PE X e ta) (hb:attributeBase e fn X.env (eval e X.env)=eval e X.env:=by rfl) (eq:X.K=K:=by rfl):PE X (.Attribute e fn pos) (tFldR K ta fn):=eq ▸ pe_fldR he hb
theorem kgetK {o i:Expr} {td ty:TE} {pos:Pos} (ho:PE X o td) (hi:PE X i ty) (hs:NoSl i) (eq:X.K=K:=by rfl):PE X (.Subscript o i pos) (tKGet K td ty):=eq ▸ pe_kget ho hi hs
theorem kinK {o i:Expr} {td ty:TE} (hi:PE X i ty) (ho:PE X o td) (eq:X.K=K:=by rfl):PC X .In i o (tKIn K ty td):=eq ▸ pc_kin hi ho
end
def gN (i:Nat):TG:=fun v σ H Q=>∀σ',σ'=σ.set i (some v)->Q σ' H
theorem pgN {X:Cx} {pos:Pos} {i:Nat} {x:Str} (hN:X.N.Nodup) (hi:X.N[i]?=some x) (hx:Loc X.env.scope x) (hf:X.fn x=true\/X.env.scope.names.lookup x=some .local:=by first|exact .inl rfl|exact .inr rfl|assumption):PG X (.Name x pos) (gN i):=
 fun pins s σ H v u Q I r h=>pg_name hN hi hx hf pins s σ H v u Q I r (h _ rfl)
def tTru (K:W.Frag) (ta:TE):TT:=fun σ H Q=>ta σ H fun x H'=>∃k,TruV K x H' k/\Q k H'
theorem truthK {X:Cx} (K:W.Frag) {a:Expr} {ta:TE} (ha:PE X a ta) (he:∀whole,isTrue a X.env whole=(do let v <-whole;standAt a.pos;holding [v] (truthy v))) (e:X.K=K:=by rfl):PT X a (tTru K ta):=e ▸ pt_truth ha he
end L2
namespace Hg
open PySem PySem.Spec PyProof.Rows L2
def top (i:Nat):Stmt:=PySem.Challenge.pw_hushgates_s01_answers.main.body.getD i (.Pass ⟨0,0,0,0⟩)
abbrev s_number_of:Stmt:=top 3
abbrev s_row_of:Stmt:=top 4
abbrev s_twice:Stmt:=top 5
abbrev s_schedule_of:Stmt:=top 11
abbrev s_following_key:Stmt:=top 12
abbrev s_row_sum:Stmt:=top 13
abbrev s_substituted:Stmt:=top 14
abbrev s_mixed_column:Stmt:=top 15
abbrev s_mixed_columns:Stmt:=top 16
abbrev s_encrypt:Stmt:=top 17
abbrev s_mix:Stmt:=top 18
abbrev s_gate_value:Stmt:=top 26
abbrev s_is_odd:Stmt:=top 27
abbrev s_colour:Stmt:=top 28
abbrev s_garbled_gate:Stmt:=top 29
abbrev s_even_label:Stmt:=top 30
abbrev s_garbled_odd:Stmt:=top 31
abbrev s_both_mixes:Stmt:=top 32
abbrev s_tweak_a:Stmt:=top 33
abbrev s_tweak_b:Stmt:=top 34
abbrev s_taken_label:Stmt:=top 35
abbrev s_read_circuit:Stmt:=top 44
abbrev s_read_gate:Stmt:=top 45
abbrev s_reply:Stmt:=top 56
abbrev s_refusal:Stmt:=top 57
abbrev s_answer_load:Stmt:=top 62
abbrev s_answer_shape:Stmt:=top 63
abbrev s_answer_plain:Stmt:=top 64
abbrev s_answer_begin:Stmt:=top 65
abbrev s_answer_new_taker:Stmt:=top 66
abbrev s_circuit_answer:Stmt:=top 68
abbrev s_answer_twice:Stmt:=top 70
abbrev s_answer_mix:Stmt:=top 71
abbrev s_asked_gate:Stmt:=top 72
abbrev s_answer_table:Stmt:=top 73
abbrev s_answer_zero:Stmt:=top 74
abbrev s_answer_one:Stmt:=top 75
abbrev s_gate_answer:Stmt:=top 77
abbrev s_done_number:Stmt:=top 79
abbrev s_answer_next:Stmt:=top 80
abbrev s_answer_match:Stmt:=top 81
abbrev s_answer_tell:Stmt:=top 82
abbrev s_answer_told:Stmt:=top 83
abbrev s_answer_done:Stmt:=top 84
abbrev s_answer_hint:Stmt:=top 85
abbrev s_answer_settle:Stmt:=top 86
abbrev s_maker_answer:Stmt:=top 88
abbrev s_answer_give:Stmt:=top 90
abbrev s_answer_feed:Stmt:=top 91
abbrev s_answer_label:Stmt:=top 92
abbrev s_answer_bit:Stmt:=top 93
abbrev s_taker_answer:Stmt:=top 95
abbrev s_answers:Stmt:=top 105
abbrev s_answer_of:Stmt:=top 106
abbrev s_is_missing:Stmt:=top 107
abbrev s_GarbledGate_init:Stmt:=inClass (top 25) 0
abbrev s_GoesWrong_init:Stmt:=inClass (top 41) 0
abbrev s_Circuit_init:Stmt:=inClass (top 42) 0
abbrev s_Circuit_shape:Stmt:=inClass (top 42) 1
abbrev s_Circuit_output_bits:Stmt:=inClass (top 42) 2
abbrev s_CircuitText_init:Stmt:=inClass (top 43) 0
abbrev s_CircuitText_take:Stmt:=inClass (top 43) 1
abbrev s_CircuitText_finish:Stmt:=inClass (top 43) 2
abbrev s_GateWalk_init:Stmt:=inClass (top 48) 0
abbrev s_GateWalk_gates_done:Stmt:=inClass (top 48) 1
abbrev s_GateWalk_all_done:Stmt:=inClass (top 48) 2
abbrev s_GateWalk_do_even_gates:Stmt:=inClass (top 48) 3
abbrev s_GateWalk_has_input:Stmt:=inClass (top 48) 4
abbrev s_GateWalk_has_output:Stmt:=inClass (top 48) 5
abbrev s_GateWalk_output_label:Stmt:=inClass (top 48) 6
abbrev s_Comparison_init:Stmt:=inClass (top 53) 0
abbrev s_Maker_init:Stmt:=inClass (top 54) 0
abbrev s_Maker_garbled_next:Stmt:=inClass (top 54) 1
abbrev s_Maker_tell_tables:Stmt:=inClass (top 54) 2
abbrev s_Maker_match_tables:Stmt:=inClass (top 54) 3
abbrev s_Maker_other_is_told:Stmt:=inClass (top 54) 4
abbrev s_Maker_tell_label:Stmt:=inClass (top 54) 5
abbrev s_Taker_init:Stmt:=inClass (top 59) 0
abbrev s_Taker_keep_label:Stmt:=inClass (top 59) 1
abbrev s_Taker_lacks_label:Stmt:=inClass (top 59) 2
abbrev s_Taker_is_finished:Stmt:=inClass (top 59) 3
abbrev s_Taker_take_stream:Stmt:=inClass (top 59) 4
abbrev s_Taker_do_odd_gate:Stmt:=inClass (top 59) 5
abbrev s_State_init:Stmt:=inClass (top 103) 0
abbrev s_CallReader_init:Stmt:=inClass (top 104) 0
abbrev s_CallReader_at_end:Stmt:=inClass (top 104) 1
abbrev s_CallReader_take_number:Stmt:=inClass (top 104) 2
abbrev s_CallReader_take_row:Stmt:=inClass (top 104) 3
structure FnAt (K:W.Frag) (mg:Str->Option Value) (x:Str) (st:Stmt) (ps:List Str) (f:Addr) (fd:FuncData):Prop where
 fn:Fun K x x st f fd
 mg_:mg x=some (.ref f)
 bi:Binds K fd ps []
structure MdAt (K:W.Frag) (m qual:Str) (st:Stmt) (ps:List Str) (f:Addr) (fd:FuncData):Prop where
 fn:Fun K m qual st f fd
 bi:Binds K fd ps []
structure ClsK (K:W.Frag) (mg:Str->Option Value) (x:Str) (C fI:Addr) (as:List Str):Prop where
 mg_:mg x=some (.ref C)
 cl:Cls K C
 mk_:Mk K C fI
 na:∀f∈as,NoAttr K C f
structure TupAt (K:W.Frag) (mg:Str->Option Value) (x:Str) (a:Addr) (xs:List V):Prop where
 mg_:mg x=some (.ref a)
 sq:∀H:Hp,SqT K H a xs
structure DicAt (K:W.Frag) (mg:Str->Option Value) (x:Str) (a:Addr) (kvs:List (Int×V)):Prop where
 mg_:mg x=some (.ref a)
 dk:DKI K a kvs
structure DtuAt (K:W.Frag) (mg:Str->Option Value) (x:Str) (a:Addr) (fs:List (Int×List V)):Prop where
 mg_:mg x=some (.ref a)
 dk:∃kvs:List (Int×V),DKI K a kvs/\Paired (fun (f:Int×List V) (kv:Int×V)=>f.1=kv.1/\∃t,kv.2=V.ref t/\∀H:Hp,SqT K H t f.2) fs kvs
def IntAt (mg:Str->Option Value) (x:Str) (i:Int):Prop:=∃t,mg x=some (.int i t)
structure WkAt (K:W.Frag) (C:Addr) (fs:List (Str×Addr)):Prop where
 cl:Cls K C
 na:∀f∈(["circuit","schedule","labels","delta"]:List Str),NoAttr K C f
 me:∀p∈fs,Meth K C p.1 p.2
noncomputable def v_S_BOX:List V:=HM.sboxT.map fun (n:Nat)=>V.int (n:Int)
noncomputable def v_DOUBLED:List V:=HM.dblT.map fun (n:Nat)=>V.int (n:Int)
def v_ROUND_CONSTANTS:List V:=[.int 1,.int 2,.int 4,.int 8,.int 16,.int 32,.int 64,.int 128,.int 27,.int 54]
def v_SHIFTED:List V:=[.int 0,.int 5,.int 10,.int 15,.int 4,.int 9,.int 14,.int 3,.int 8,.int 13,.int 2,.int 7,.int 12,.int 1,.int 6,.int 11]
noncomputable def v_EVEN:List (Int×List V):=[(0,[.int 0,.int 0,.int 0]),(15,[.int 0,.int 0,.int 1]),(12,[.int 1,.int 0,.int 0]),(3,[.int 1,.int 0,.int 1]),(10,[.int 0,.int 1,.int 0]),(5,[.int 0,.int 1,.int 1]),(6,[.int 1,.int 1,.int 0]),(9,[.int 1,.int 1,.int 1])]
noncomputable def v_ODD:List (Int×List V):=[(1,[.int 1,.int 1,.int 0]),(2,[.int 1,.int 0,.int 0]),(4,[.int 0,.int 1,.int 0]),(8,[.int 0,.int 0,.int 0]),(14,[.int 1,.int 1,.int 1]),(13,[.int 1,.int 0,.int 1]),(11,[.int 0,.int 1,.int 1]),(7,[.int 0,.int 0,.int 1])]
def v_SIGN:List V:=[.int 72,.int 87,.int 49,.int 0]
noncomputable def v_FORMS:List (Int×List V):=[(0,[.int 0,.int 1,.int 1]),(1,[.int 0,.int 3,.int 3]),(2,[.int 2,.int 4,.int 4]),(3,[.int 2,.int 4,.int 4]),(4,[.int 2,.int 4,.int 3]),(5,[.int 0,.int 1,.int 0]),(6,[.int 0,.int 0,.int 0]),(7,[.int 0,.int 2,.int 0]),(8,[.int 0,.int 2,.int 2]),(9,[.int 1,.int 0,.int 0]),(10,[.int 0,.int 1,.int 0]),(11,[.int 2,.int 0,.int 0]),(12,[.int 1,.int 0,.int 0]),(13,[.int 0,.int 0,.int 0]),(14,[.int 1,.int 0,.int 0]),(15,[.int 1,.int 1,.int 1]),(16,[.int 0,.int 1,.int 1]),(17,[.int 1,.int 1,.int 1]),(18,[.int 0,.int 1,.int 0]),(19,[.int 1,.int 0,.int 0]),(20,[.int 2,.int 0,.int 0])]
def v_CIRCUIT_CALL_NUMBERS:List V:=[.int 6,.int 7,.int 8,.int 16]
def v_MAKER_CALL_NUMBERS:List V:=[.int 9,.int 10,.int 11,.int 12,.int 13,.int 14,.int 15]
def v_TAKER_CALL_NUMBERS:List V:=[.int 17,.int 18,.int 19,.int 20]
set_option genInjectivity false in
set_option genSizeOf false in
structure Ad where
 f_number_of:Addr
 d_number_of:FuncData
 f_row_of:Addr
 d_row_of:FuncData
 f_twice:Addr
 d_twice:FuncData
 f_schedule_of:Addr
 d_schedule_of:FuncData
 f_following_key:Addr
 d_following_key:FuncData
 f_row_sum:Addr
 d_row_sum:FuncData
 f_substituted:Addr
 d_substituted:FuncData
 f_mixed_column:Addr
 d_mixed_column:FuncData
 f_mixed_columns:Addr
 d_mixed_columns:FuncData
 f_encrypt:Addr
 d_encrypt:FuncData
 f_mix:Addr
 d_mix:FuncData
 f_gate_value:Addr
 d_gate_value:FuncData
 f_is_odd:Addr
 d_is_odd:FuncData
 f_colour:Addr
 d_colour:FuncData
 f_garbled_gate:Addr
 d_garbled_gate:FuncData
 f_even_label:Addr
 d_even_label:FuncData
 f_garbled_odd:Addr
 d_garbled_odd:FuncData
 f_both_mixes:Addr
 d_both_mixes:FuncData
 f_tweak_a:Addr
 d_tweak_a:FuncData
 f_tweak_b:Addr
 d_tweak_b:FuncData
 f_taken_label:Addr
 d_taken_label:FuncData
 f_read_circuit:Addr
 d_read_circuit:FuncData
 f_read_gate:Addr
 d_read_gate:FuncData
 f_reply:Addr
 d_reply:FuncData
 f_refusal:Addr
 d_refusal:FuncData
 f_answer_load:Addr
 d_answer_load:FuncData
 f_answer_shape:Addr
 d_answer_shape:FuncData
 f_answer_plain:Addr
 d_answer_plain:FuncData
 f_answer_begin:Addr
 d_answer_begin:FuncData
 f_answer_new_taker:Addr
 d_answer_new_taker:FuncData
 f_circuit_answer:Addr
 d_circuit_answer:FuncData
 f_answer_twice:Addr
 d_answer_twice:FuncData
 f_answer_mix:Addr
 d_answer_mix:FuncData
 f_asked_gate:Addr
 d_asked_gate:FuncData
 f_answer_table:Addr
 d_answer_table:FuncData
 f_answer_zero:Addr
 d_answer_zero:FuncData
 f_answer_one:Addr
 d_answer_one:FuncData
 f_gate_answer:Addr
 d_gate_answer:FuncData
 f_done_number:Addr
 d_done_number:FuncData
 f_answer_next:Addr
 d_answer_next:FuncData
 f_answer_match:Addr
 d_answer_match:FuncData
 f_answer_tell:Addr
 d_answer_tell:FuncData
 f_answer_told:Addr
 d_answer_told:FuncData
 f_answer_done:Addr
 d_answer_done:FuncData
 f_answer_hint:Addr
 d_answer_hint:FuncData
 f_answer_settle:Addr
 d_answer_settle:FuncData
 f_maker_answer:Addr
 d_maker_answer:FuncData
 f_answer_give:Addr
 d_answer_give:FuncData
 f_answer_feed:Addr
 d_answer_feed:FuncData
 f_answer_label:Addr
 d_answer_label:FuncData
 f_answer_bit:Addr
 d_answer_bit:FuncData
 f_taker_answer:Addr
 d_taker_answer:FuncData
 f_answers:Addr
 d_answers:FuncData
 f_answer_of:Addr
 d_answer_of:FuncData
 f_is_missing:Addr
 d_is_missing:FuncData
 f_GarbledGate_init:Addr
 d_GarbledGate_init:FuncData
 f_GoesWrong_init:Addr
 d_GoesWrong_init:FuncData
 f_Circuit_init:Addr
 d_Circuit_init:FuncData
 f_Circuit_shape:Addr
 d_Circuit_shape:FuncData
 f_Circuit_output_bits:Addr
 d_Circuit_output_bits:FuncData
 f_CircuitText_init:Addr
 d_CircuitText_init:FuncData
 f_CircuitText_take:Addr
 d_CircuitText_take:FuncData
 f_CircuitText_finish:Addr
 d_CircuitText_finish:FuncData
 f_GateWalk_init:Addr
 d_GateWalk_init:FuncData
 f_GateWalk_gates_done:Addr
 d_GateWalk_gates_done:FuncData
 f_GateWalk_all_done:Addr
 d_GateWalk_all_done:FuncData
 f_GateWalk_do_even_gates:Addr
 d_GateWalk_do_even_gates:FuncData
 f_GateWalk_has_input:Addr
 d_GateWalk_has_input:FuncData
 f_GateWalk_has_output:Addr
 d_GateWalk_has_output:FuncData
 f_GateWalk_output_label:Addr
 d_GateWalk_output_label:FuncData
 f_Comparison_init:Addr
 d_Comparison_init:FuncData
 f_Maker_init:Addr
 d_Maker_init:FuncData
 f_Maker_garbled_next:Addr
 d_Maker_garbled_next:FuncData
 f_Maker_tell_tables:Addr
 d_Maker_tell_tables:FuncData
 f_Maker_match_tables:Addr
 d_Maker_match_tables:FuncData
 f_Maker_other_is_told:Addr
 d_Maker_other_is_told:FuncData
 f_Maker_tell_label:Addr
 d_Maker_tell_label:FuncData
 f_Taker_init:Addr
 d_Taker_init:FuncData
 f_Taker_keep_label:Addr
 d_Taker_keep_label:FuncData
 f_Taker_lacks_label:Addr
 d_Taker_lacks_label:FuncData
 f_Taker_is_finished:Addr
 d_Taker_is_finished:FuncData
 f_Taker_take_stream:Addr
 d_Taker_take_stream:FuncData
 f_Taker_do_odd_gate:Addr
 d_Taker_do_odd_gate:FuncData
 f_State_init:Addr
 d_State_init:FuncData
 f_CallReader_init:Addr
 d_CallReader_init:FuncData
 f_CallReader_at_end:Addr
 d_CallReader_at_end:FuncData
 f_CallReader_take_number:Addr
 d_CallReader_take_number:FuncData
 f_CallReader_take_row:Addr
 d_CallReader_take_row:FuncData
 c_GarbledGate:Addr
 c_GoesWrong:Addr
 c_Circuit:Addr
 c_CircuitText:Addr
 c_GateWalk:Addr
 c_Comparison:Addr
 c_Maker:Addr
 c_Taker:Addr
 c_State:Addr
 c_CallReader:Addr
 a_S_BOX:Addr
 a_DOUBLED:Addr
 a_ROUND_CONSTANTS:Addr
 a_SHIFTED:Addr
 a_EVEN:Addr
 a_ODD:Addr
 a_SIGN:Addr
 a_CIRCUIT_CALLS:Addr
 a_GATE_CALLS:Addr
 a_MAKER_CALLS:Addr
 a_TAKER_CALLS:Addr
 a_FORMS:Addr
 a_CIRCUIT_CALL_NUMBERS:Addr
 a_MAKER_CALL_NUMBERS:Addr
 a_TAKER_CALL_NUMBERS:Addr
structure Txt (K:W.Frag) (mg:Str->Option Value) (A:Ad):Prop where
 number_of:FnAt K mg "number_of" s_number_of ["row"] A.f_number_of A.d_number_of
 row_of:FnAt K mg "row_of" s_row_of ["number"] A.f_row_of A.d_row_of
 twice:FnAt K mg "twice" s_twice ["x"] A.f_twice A.d_twice
 schedule_of:FnAt K mg "schedule_of" s_schedule_of ["key"] A.f_schedule_of A.d_schedule_of
 following_key:FnAt K mg "following_key" s_following_key ["key","constant"] A.f_following_key A.d_following_key
 row_sum:FnAt K mg "row_sum" s_row_sum ["first","second"] A.f_row_sum A.d_row_sum
 substituted:FnAt K mg "substituted" s_substituted ["state"] A.f_substituted A.d_substituted
 mixed_column:FnAt K mg "mixed_column" s_mixed_column ["p","q","r","s"] A.f_mixed_column A.d_mixed_column
 mixed_columns:FnAt K mg "mixed_columns" s_mixed_columns ["state"] A.f_mixed_columns A.d_mixed_columns
 encrypt:FnAt K mg "encrypt" s_encrypt ["schedule","x"] A.f_encrypt A.d_encrypt
 mix:FnAt K mg "mix" s_mix ["schedule","x","t"] A.f_mix A.d_mix
 gate_value:FnAt K mg "gate_value" s_gate_value ["f","a","b"] A.f_gate_value A.d_gate_value
 is_odd:FnAt K mg "is_odd" s_is_odd ["f"] A.f_is_odd A.d_is_odd
 colour:FnAt K mg "colour" s_colour ["label"] A.f_colour A.d_colour
 garbled_gate:FnAt K mg "garbled_gate" s_garbled_gate ["schedule","f","g","a","b","d"] A.f_garbled_gate A.d_garbled_gate
 even_label:FnAt K mg "even_label" s_even_label ["f","a","b","d"] A.f_even_label A.d_even_label
 garbled_odd:FnAt K mg "garbled_odd" s_garbled_odd ["schedule","f","g","a","b","d"] A.f_garbled_odd A.d_garbled_odd
 both_mixes:FnAt K mg "both_mixes" s_both_mixes ["schedule","label","d","tweak"] A.f_both_mixes A.d_both_mixes
 tweak_a:FnAt K mg "tweak_a" s_tweak_a ["g"] A.f_tweak_a A.d_tweak_a
 tweak_b:FnAt K mg "tweak_b" s_tweak_b ["g"] A.f_tweak_b A.d_tweak_b
 taken_label:FnAt K mg "taken_label" s_taken_label ["schedule","f","g","a","b","table"] A.f_taken_label A.d_taken_label
 read_circuit:FnAt K mg "read_circuit" s_read_circuit ["row"] A.f_read_circuit A.d_read_circuit
 read_gate:FnAt K mg "read_gate" s_read_gate ["text","wire"] A.f_read_gate A.d_read_gate
 reply:FnAt K mg "reply" s_reply ["number","row","numbers"] A.f_reply A.d_reply
 refusal:FnAt K mg "refusal" s_refusal ["number"] A.f_refusal A.d_refusal
 answer_load:FnAt K mg "answer_load" s_answer_load ["state","rows"] A.f_answer_load A.d_answer_load
 answer_shape:FnAt K mg "answer_shape" s_answer_shape ["state","rows"] A.f_answer_shape A.d_answer_shape
 answer_plain:FnAt K mg "answer_plain" s_answer_plain ["state","rows"] A.f_answer_plain A.d_answer_plain
 answer_begin:FnAt K mg "answer_begin" s_answer_begin ["state","rows"] A.f_answer_begin A.d_answer_begin
 answer_new_taker:FnAt K mg "answer_new_taker" s_answer_new_taker ["state","rows"] A.f_answer_new_taker A.d_answer_new_taker
 circuit_answer:FnAt K mg "circuit_answer" s_circuit_answer ["state","number","rows"] A.f_circuit_answer A.d_circuit_answer
 answer_twice:FnAt K mg "answer_twice" s_answer_twice ["numbers","rows"] A.f_answer_twice A.d_answer_twice
 answer_mix:FnAt K mg "answer_mix" s_answer_mix ["numbers","rows"] A.f_answer_mix A.d_answer_mix
 asked_gate:FnAt K mg "asked_gate" s_asked_gate ["numbers","rows"] A.f_asked_gate A.d_asked_gate
 answer_table:FnAt K mg "answer_table" s_answer_table ["numbers","rows"] A.f_answer_table A.d_answer_table
 answer_zero:FnAt K mg "answer_zero" s_answer_zero ["numbers","rows"] A.f_answer_zero A.d_answer_zero
 answer_one:FnAt K mg "answer_one" s_answer_one ["numbers","rows"] A.f_answer_one A.d_answer_one
 gate_answer:FnAt K mg "gate_answer" s_gate_answer ["number","numbers","rows"] A.f_gate_answer A.d_gate_answer
 done_number:FnAt K mg "done_number" s_done_number ["maker"] A.f_done_number A.d_done_number
 answer_next:FnAt K mg "answer_next" s_answer_next ["maker","numbers","rows"] A.f_answer_next A.d_answer_next
 answer_match:FnAt K mg "answer_match" s_answer_match ["maker","numbers","rows"] A.f_answer_match A.d_answer_match
 answer_tell:FnAt K mg "answer_tell" s_answer_tell ["maker","numbers","rows"] A.f_answer_tell A.d_answer_tell
 answer_told:FnAt K mg "answer_told" s_answer_told ["maker","numbers","rows"] A.f_answer_told A.d_answer_told
 answer_done:FnAt K mg "answer_done" s_answer_done ["maker","numbers","rows"] A.f_answer_done A.d_answer_done
 answer_hint:FnAt K mg "answer_hint" s_answer_hint ["maker","numbers","rows"] A.f_answer_hint A.d_answer_hint
 answer_settle:FnAt K mg "answer_settle" s_answer_settle ["maker","numbers","rows"] A.f_answer_settle A.d_answer_settle
 maker_answer:FnAt K mg "maker_answer" s_maker_answer ["maker","number","numbers","rows"] A.f_maker_answer A.d_maker_answer
 answer_give:FnAt K mg "answer_give" s_answer_give ["taker","numbers","rows"] A.f_answer_give A.d_answer_give
 answer_feed:FnAt K mg "answer_feed" s_answer_feed ["taker","numbers","rows"] A.f_answer_feed A.d_answer_feed
 answer_label:FnAt K mg "answer_label" s_answer_label ["taker","numbers","rows"] A.f_answer_label A.d_answer_label
 answer_bit:FnAt K mg "answer_bit" s_answer_bit ["taker","numbers","rows"] A.f_answer_bit A.d_answer_bit
 taker_answer:FnAt K mg "taker_answer" s_taker_answer ["taker","number","numbers","rows"] A.f_taker_answer A.d_taker_answer
 answers:FnAt K mg "answers" s_answers ["calls"] A.f_answers A.d_answers
 answer_of:FnAt K mg "answer_of" s_answer_of ["state","number","numbers","rows"] A.f_answer_of A.d_answer_of
 is_missing:FnAt K mg "is_missing" s_is_missing ["state","number"] A.f_is_missing A.d_is_missing
 GarbledGate_init:MdAt K "__init__" "GarbledGate.__init__" s_GarbledGate_init ["self","table","zero"] A.f_GarbledGate_init A.d_GarbledGate_init
 GoesWrong_init:MdAt K "__init__" "GoesWrong.__init__" s_GoesWrong_init ["self","place"] A.f_GoesWrong_init A.d_GoesWrong_init
 Circuit_init:MdAt K "__init__" "Circuit.__init__" s_Circuit_init ["self","maker_bits","taker_bits","gates","outputs"] A.f_Circuit_init A.d_Circuit_init
 Circuit_shape:MdAt K "shape" "Circuit.shape" s_Circuit_shape ["self"] A.f_Circuit_shape A.d_Circuit_shape
 Circuit_output_bits:MdAt K "output_bits" "Circuit.output_bits" s_Circuit_output_bits ["self","bits"] A.f_Circuit_output_bits A.d_Circuit_output_bits
 CircuitText_init:MdAt K "__init__" "CircuitText.__init__" s_CircuitText_init ["self","row"] A.f_CircuitText_init A.d_CircuitText_init
 CircuitText_take:MdAt K "take" "CircuitText.take" s_CircuitText_take ["self","width","least","most"] A.f_CircuitText_take A.d_CircuitText_take
 CircuitText_finish:MdAt K "finish" "CircuitText.finish" s_CircuitText_finish ["self"] A.f_CircuitText_finish A.d_CircuitText_finish
 GateWalk_init:MdAt K "__init__" "GateWalk.__init__" s_GateWalk_init ["self","circuit","key","labels","delta"] A.f_GateWalk_init A.d_GateWalk_init
 GateWalk_gates_done:MdAt K "gates_done" "GateWalk.gates_done" s_GateWalk_gates_done ["self"] A.f_GateWalk_gates_done A.d_GateWalk_gates_done
 GateWalk_all_done:MdAt K "all_done" "GateWalk.all_done" s_GateWalk_all_done ["self"] A.f_GateWalk_all_done A.d_GateWalk_all_done
 GateWalk_do_even_gates:MdAt K "do_even_gates" "GateWalk.do_even_gates" s_GateWalk_do_even_gates ["self"] A.f_GateWalk_do_even_gates A.d_GateWalk_do_even_gates
 GateWalk_has_input:MdAt K "has_input" "GateWalk.has_input" s_GateWalk_has_input ["self","i"] A.f_GateWalk_has_input A.d_GateWalk_has_input
 GateWalk_has_output:MdAt K "has_output" "GateWalk.has_output" s_GateWalk_has_output ["self","j"] A.f_GateWalk_has_output A.d_GateWalk_has_output
 GateWalk_output_label:MdAt K "output_label" "GateWalk.output_label" s_GateWalk_output_label ["self","j"] A.f_GateWalk_output_label A.d_GateWalk_output_label
 Comparison_init:MdAt K "__init__" "Comparison.__init__" s_Comparison_init ["self","same","differs"] A.f_Comparison_init A.d_Comparison_init
 Maker_init:MdAt K "__init__" "Maker.__init__" s_Maker_init ["self","circuit","key","seed"] A.f_Maker_init A.d_Maker_init
 Maker_garbled_next:MdAt K "garbled_next" "Maker.garbled_next" s_Maker_garbled_next ["self"] A.f_Maker_garbled_next A.d_Maker_garbled_next
 Maker_tell_tables:MdAt K "tell_tables" "Maker.tell_tables" s_Maker_tell_tables ["self","most"] A.f_Maker_tell_tables A.d_Maker_tell_tables
 Maker_match_tables:MdAt K "match_tables" "Maker.match_tables" s_Maker_match_tables ["self","stream"] A.f_Maker_match_tables A.d_Maker_match_tables
 Maker_other_is_told:MdAt K "other_is_told" "Maker.other_is_told" s_Maker_other_is_told ["self","i","bit"] A.f_Maker_other_is_told A.d_Maker_other_is_told
 Maker_tell_label:MdAt K "tell_label" "Maker.tell_label" s_Maker_tell_label ["self","i","bit"] A.f_Maker_tell_label A.d_Maker_tell_label
 Taker_init:MdAt K "__init__" "Taker.__init__" s_Taker_init ["self","circuit","key"] A.f_Taker_init A.d_Taker_init
 Taker_keep_label:MdAt K "keep_label" "Taker.keep_label" s_Taker_keep_label ["self","i","label"] A.f_Taker_keep_label A.d_Taker_keep_label
 Taker_lacks_label:MdAt K "lacks_label" "Taker.lacks_label" s_Taker_lacks_label ["self"] A.f_Taker_lacks_label A.d_Taker_lacks_label
 Taker_is_finished:MdAt K "is_finished" "Taker.is_finished" s_Taker_is_finished ["self"] A.f_Taker_is_finished A.d_Taker_is_finished
 Taker_take_stream:MdAt K "take_stream" "Taker.take_stream" s_Taker_take_stream ["self","stream"] A.f_Taker_take_stream A.d_Taker_take_stream
 Taker_do_odd_gate:MdAt K "do_odd_gate" "Taker.do_odd_gate" s_Taker_do_odd_gate ["self"] A.f_Taker_do_odd_gate A.d_Taker_do_odd_gate
 State_init:MdAt K "__init__" "State.__init__" s_State_init ["self"] A.f_State_init A.d_State_init
 CallReader_init:MdAt K "__init__" "CallReader.__init__" s_CallReader_init ["self","calls"] A.f_CallReader_init A.d_CallReader_init
 CallReader_at_end:MdAt K "at_end" "CallReader.at_end" s_CallReader_at_end ["self"] A.f_CallReader_at_end A.d_CallReader_at_end
 CallReader_take_number:MdAt K "take_number" "CallReader.take_number" s_CallReader_take_number ["self"] A.f_CallReader_take_number A.d_CallReader_take_number
 CallReader_take_row:MdAt K "take_row" "CallReader.take_row" s_CallReader_take_row ["self"] A.f_CallReader_take_row A.d_CallReader_take_row
 c_GarbledGate:ClsK K mg "GarbledGate" A.c_GarbledGate A.f_GarbledGate_init ["table","zero"]
 c_Circuit:ClsK K mg "Circuit" A.c_Circuit A.f_Circuit_init ["maker_bits","taker_bits","inputs","gates","outputs"]
 c_CircuitText:ClsK K mg "CircuitText" A.c_CircuitText A.f_CircuitText_init ["row","at"]
 c_Comparison:ClsK K mg "Comparison" A.c_Comparison A.f_Comparison_init ["same","differs"]
 c_Maker:ClsK K mg "Maker" A.c_Maker A.f_Maker_init ["circuit","schedule","labels","delta","inputs_told"]
 c_Taker:ClsK K mg "Taker" A.c_Taker A.f_Taker_init ["circuit","schedule","labels","delta","piece","is_fed"]
 c_State:ClsK K mg "State" A.c_State A.f_State_init ["circuit","maker","taker"]
 c_CallReader:ClsK K mg "CallReader" A.c_CallReader A.f_CallReader_init ["calls","at"]
 m_Circuit_shape:Meth K A.c_Circuit "shape" A.f_Circuit_shape
 m_Circuit_output_bits:Meth K A.c_Circuit "output_bits" A.f_Circuit_output_bits
 m_CircuitText_take:Meth K A.c_CircuitText "take" A.f_CircuitText_take
 m_CircuitText_finish:Meth K A.c_CircuitText "finish" A.f_CircuitText_finish
 m_CallReader_at_end:Meth K A.c_CallReader "at_end" A.f_CallReader_at_end
 m_CallReader_take_number:Meth K A.c_CallReader "take_number" A.f_CallReader_take_number
 m_CallReader_take_row:Meth K A.c_CallReader "take_row" A.f_CallReader_take_row
 w_Maker:WkAt K A.c_Maker [("gates_done",A.f_GateWalk_gates_done),("all_done",A.f_GateWalk_all_done),("do_even_gates",A.f_GateWalk_do_even_gates),("has_input",A.f_GateWalk_has_input),("has_output",A.f_GateWalk_has_output),("output_label",A.f_GateWalk_output_label),("garbled_next",A.f_Maker_garbled_next),("tell_tables",A.f_Maker_tell_tables),("match_tables",A.f_Maker_match_tables),("other_is_told",A.f_Maker_other_is_told),("tell_label",A.f_Maker_tell_label)]
 w_Taker:WkAt K A.c_Taker [("gates_done",A.f_GateWalk_gates_done),("all_done",A.f_GateWalk_all_done),("do_even_gates",A.f_GateWalk_do_even_gates),("has_input",A.f_GateWalk_has_input),("has_output",A.f_GateWalk_has_output),("output_label",A.f_GateWalk_output_label),("keep_label",A.f_Taker_keep_label),("lacks_label",A.f_Taker_lacks_label),("is_finished",A.f_Taker_is_finished),("take_stream",A.f_Taker_take_stream),("do_odd_gate",A.f_Taker_do_odd_gate)]
 mg_GateWalk:mg "GateWalk"=some (.ref A.c_GateWalk)
 ga_GateWalk:PySem.W.specialIn K (.ref A.c_GateWalk) "__getattribute__"=some (some (.builtin "type.__getattribute__"))
 rd_GateWalk:PySem.W.readsIn K A.c_GateWalk (.type "type")=true
 fi_GateWalk:PySem.W.findCls K (.ref A.c_GateWalk) (.type "type") "__init__"=some (.val (.ref A.f_GateWalk_init))
 mg_GoesWrong:mg "GoesWrong"=some (.ref A.c_GoesWrong)
 kp_GoesWrong:PySem.W.keepIn K (.ref A.c_GoesWrong)=true
 ex_GoesWrong:ErrK K A.c_GoesWrong A.f_GoesWrong_init "place"
 i_OVER:IntAt mg "OVER" 340282366920938463463374607431768211456
 i_FALLEN:IntAt mg "FALLEN" 135
 t_S_BOX:TupAt K mg "S_BOX" A.a_S_BOX v_S_BOX
 t_DOUBLED:TupAt K mg "DOUBLED" A.a_DOUBLED v_DOUBLED
 t_ROUND_CONSTANTS:TupAt K mg "ROUND_CONSTANTS" A.a_ROUND_CONSTANTS v_ROUND_CONSTANTS
 t_SHIFTED:TupAt K mg "SHIFTED" A.a_SHIFTED v_SHIFTED
 i_MOST_FUNCTION:IntAt mg "MOST_FUNCTION" 15
 i_TABLE_BYTES:IntAt mg "TABLE_BYTES" 32
 i_TWEAKS:IntAt mg "TWEAKS" 18446744073709551616
 t_EVEN:DtuAt K mg "EVEN" A.a_EVEN v_EVEN
 t_ODD:DtuAt K mg "ODD" A.a_ODD v_ODD
 t_SIGN:TupAt K mg "SIGN" A.a_SIGN v_SIGN
 i_MOST_BITS:IntAt mg "MOST_BITS" 16
 i_MOST_GATES:IntAt mg "MOST_GATES" 32
 i_MOST_OUTPUTS:IntAt mg "MOST_OUTPUTS" 16
 i_LONGEST_PIECE:IntAt mg "LONGEST_PIECE" 2048
 i_NEITHER_TOLD:IntAt mg "NEITHER_TOLD" 0
 i_ZERO_TOLD:IntAt mg "ZERO_TOLD" 1
 i_ONE_TOLD:IntAt mg "ONE_TOLD" 2
 i_LONGEST_TEXT:IntAt mg "LONGEST_TEXT" 256
 t_CIRCUIT_CALLS:DicAt K mg "CIRCUIT_CALLS" A.a_CIRCUIT_CALLS [(5,.ref A.f_answer_load),(6,.ref A.f_answer_shape),(7,.ref A.f_answer_plain),(8,.ref A.f_answer_begin),(16,.ref A.f_answer_new_taker)]
 t_GATE_CALLS:DicAt K mg "GATE_CALLS" A.a_GATE_CALLS [(0,.ref A.f_answer_twice),(1,.ref A.f_answer_mix),(2,.ref A.f_answer_table),(3,.ref A.f_answer_zero),(4,.ref A.f_answer_one)]
 t_MAKER_CALLS:DicAt K mg "MAKER_CALLS" A.a_MAKER_CALLS [(9,.ref A.f_answer_next),(10,.ref A.f_answer_match),(11,.ref A.f_answer_tell),(12,.ref A.f_answer_told),(13,.ref A.f_answer_done),(14,.ref A.f_answer_hint),(15,.ref A.f_answer_settle)]
 t_TAKER_CALLS:DicAt K mg "TAKER_CALLS" A.a_TAKER_CALLS [(17,.ref A.f_answer_give),(18,.ref A.f_answer_feed),(19,.ref A.f_answer_label),(20,.ref A.f_answer_bit)]
 t_FORMS:DtuAt K mg "FORMS" A.a_FORMS v_FORMS
 i_LAST_GATE_CALL:IntAt mg "LAST_GATE_CALL" 4
 t_CIRCUIT_CALL_NUMBERS:TupAt K mg "CIRCUIT_CALL_NUMBERS" A.a_CIRCUIT_CALL_NUMBERS v_CIRCUIT_CALL_NUMBERS
 t_MAKER_CALL_NUMBERS:TupAt K mg "MAKER_CALL_NUMBERS" A.a_MAKER_CALL_NUMBERS v_MAKER_CALL_NUMBERS
 t_TAKER_CALL_NUMBERS:TupAt K mg "TAKER_CALL_NUMBERS" A.a_TAKER_CALL_NUMBERS v_TAKER_CALL_NUMBERS
 i_SIXTEEN:IntAt mg "SIXTEEN" 16
 n_len:mg "len"=none
 n_range:mg "range"=none
 n_reversed:mg "reversed"=none
 n_zip:mg "zip"=none
 n_any:mg "any"=none
 n_list:mg "list"=none
theorem ClsK.n {K:W.Frag} {mg:Str->Option Value} {x:Str} {C fI:Addr} {as:List Str} (c:ClsK K mg x C fI as) {f:Str} (h:f∈as:=by simp):NoAttr K C f:=c.na f h
def U (P:List Value->Prop):List Str->Prop
 |[]=>P []
 |_::r=>∀a,U (fun us=>P (a::us)) r
theorem U.all:∀{ps:List Str} {P:List Value->Prop},U P ps->∀us,us.length=ps.length->P us
 |[],_,h,[],_=>h
 |_::_,_,h,a::us,e=>(h a).all us (Nat.succ.inj e)
section
variable {K:W.Frag} {h:Heap} {mg:Str->Option Value}
theorem fnAt_mk {x:Str} {st:Stmt} {ps:List Str} {f:Addr} {oc:Value} {od an:Option Addr} {osl:Array (Option Value)} {kV doc pm cdv ct:Value} (X:K.In h) (G:h.Ns mainGlobals mg) (b:∀(kV doc pm:Value) (an:Option Addr) (cdv ct:Value),U (fun us=>bindArgs (PySem.W.fnOf x x (defArgs st) (defBody st) (defScope st) .none kV doc pm an cdv ct) ⟨us,[]⟩=pure (ps.zip us)) ps:=by (repeat intro _);rfl) (a:PySem.W.nsIn K mainGlobals x=some (some (.ref f)):=by k_is)
  (l:K.lookup f=some ⟨oc,od,.func (PySem.W.fnOf x x (defArgs st) (defBody st) (defScope st) .none kV doc pm an cdv ct),osl⟩:=by k_is) (c:PySem.W.codeIn K cdv x=true:=by k_is) (k:PySem.W.keepIn K (.ref f)=true:=by k_is):
  FnAt K mg x st ps f (PySem.W.fnOf x x (defArgs st) (defBody st) (defScope st) .none kV doc pm an cdv ct):=
 ⟨fun_mk l c k,PySem.W.mg_of X G a,(fun_mk l c k).binds fun _ _ _ _ _ _=>(b _ _ _ _ _ _).all⟩
theorem cls_mk {C:Addr} (pg:PySem.W.plainGet K C Str.empty=true) (hd:PySem.W.hasDictIn K C=true) (po:PySem.W.plainOver K C=true) (sa:PySem.W.findIn K (.ref C) "__setattr__"=some (some (.builtin "object.__setattr__"))):Cls K C:=⟨pg,hd,po,sa⟩
theorem na_nil {C:Addr}:∀f∈([]:List Str),NoAttr K C f:=fun f h=>absurd h (by simp)
theorem na_cons {C:Addr} {x:Str} {xs:List Str} (a:PySem.W.findIn K (.ref C) x=some none) (r:∀f∈xs,NoAttr K C f):∀f∈x::xs,NoAttr K C f:=fun f h=>by
 rcases List.mem_cons.mp h with rfl|h
 ·exact a
 ·exact r f h
theorem me_nil {C:Addr}:∀p∈([]:List (Str×Addr)),Meth K C p.1 p.2:=fun f h=>absurd h (by simp)
theorem me_cons {C f:Addr} {x:Str} {xs:List (Str×Addr)} (a:PySem.W.findIn K (.ref C) x=some (some (.ref f))) (k:PySem.W.keepIn K (.ref f)=true) (i:PySem.W.isFn K (.ref f)=true) (r:∀p∈xs,Meth K C p.1 p.2):∀p∈(x,f)::xs,Meth K C p.1 p.2:=fun p h=>by
 rcases List.mem_cons.mp h with rfl|h
 ·exact ⟨a,i,k⟩
 ·exact r p h
theorem clsAt_mk {x:Str} {C fI:Addr} {as:List Str} (X:K.In h) (G:h.Ns mainGlobals mg) (a:PySem.W.nsIn K mainGlobals x=some (some (.ref C))) (cl:Cls K C) (mk:PySem.W.makesIn K C=true) (i:PySem.W.findIn K (.ref C) "__init__"=some (some (.ref fI)))
  (fn:PySem.W.isFn K (.ref fI)=true) (kc:PySem.W.keepIn K (.ref C)=true) (na:∀f∈as,NoAttr K C f):ClsK K mg x C fI as:=⟨PySem.W.mg_of X G a,cl,⟨mk,i,fn,kc⟩,na⟩
theorem gw_mk {x:Str} {C fI:Addr} (X:K.In h) (G:h.Ns mainGlobals mg) (g:PySem.W.nsIn K mainGlobals x=some (some (.ref C))) (ga:PySem.W.specialIn K (.ref C) "__getattribute__"=some (some (.builtin "type.__getattribute__"))) (rd:PySem.W.readsIn K C (.type "type")=true)
  (fi:PySem.W.findCls K (.ref C) (.type "type") "__init__"=some (.val (.ref fI))):mg x=some (.ref C)/\PySem.W.specialIn K (.ref C) "__getattribute__"=some (some (.builtin "type.__getattribute__"))/\PySem.W.readsIn K C (.type "type")=true/\PySem.W.findCls K (.ref C) (.type "type") "__init__"=some (.val (.ref fI)):=
 ⟨PySem.W.mg_of X G g,ga,rd,fi⟩
theorem tupAt_mk {x:Str} {a:Addr} {xs:List V} {od:Option Addr} {its:Array Value} {n:Nat} {sl:Array (Option Value)} (X:K.In h) (G:h.Ns mainGlobals mg) (e:PySem.W.nsIn K mainGlobals x=some (some (.ref a)))
  (l:K.lookup a=some ⟨.type "tuple",od,.seq its n,sl⟩) (c:its.toList.map absV=xs.map some) (z:its.size<=sizeLine):TupAt K mg x a xs:=⟨PySem.W.mg_of X G e,fun _=>sqT_of l c z⟩
theorem intAt_mk {x:Str} {i:Int} {t:Tok} (X:K.In h) (G:h.Ns mainGlobals mg) (e:PySem.W.nsIn K mainGlobals x=some (some (.int i t))):IntAt mg x i:=⟨t,PySem.W.mg_of X G e⟩
abbrev PTu (K:W.Frag) (f:Int×List V) (kv:Int×V):Prop:=f.1=kv.1/\∃t,kv.2=V.ref t/\∀H:Hp,SqT K H t f.2
theorem pt_nil:Paired (PTu K) [] []:=.nil
theorem pt_cons {t:Addr} {k:Int} {xs:List V} {fs:List (Int×List V)} {kvs:List (Int×V)} {od:Option Addr} {its:Array Value} {n:Nat} {sl:Array (Option Value)} (l:K.lookup t=some ⟨.type "tuple",od,.seq its n,sl⟩) (c:its.toList.map absV=xs.map some) (z:its.size<=sizeLine)
  (r:Paired (PTu K) fs kvs):Paired (PTu K) ((k,xs)::fs) ((k,V.ref t)::kvs):=.cons ⟨rfl,t,rfl,fun _=>sqT_of l c z⟩ r
def entV:List DictEntry->List (Int×V)
 |[]=>[]
 |e::es=>(match e.key with|.int i _=>i|_=>0,(absV e.val).getD .non)::entV es
theorem dtuAt_mk {x:Str} {a:Addr} {es:List DictEntry} {ep:Nat} {fs:List (Int×List V)} {kvs:List (Int×V)} (X:K.In h) (G:h.Ns mainGlobals mg) (e:PySem.W.nsIn K mainGlobals x=some (some (.ref a)))
  (l:K.lookup a=some ⟨.type "dict",none,.dict es.toArray ep,#[]⟩) (ek:entV es=kvs) (c:entsOk kvs es=true) (s:(a == sysModules)=false) (nd:(kvs.map (·.1)).Nodup) (p:Paired (PTu K) fs kvs):DtuAt K mg x a fs:=⟨PySem.W.mg_of X G e,kvs,⟨s,⟨es,ep,l,c⟩,nd⟩,p⟩
def strK (es:List DictEntry):Bool:=es.all fun e=>match e.key with|.str _ _=>true|_=>false
theorem ns_look {N:Addr} {oc:Value} {od:Option Addr} {es:Array DictEntry} {ep:Nat} {sl:Array (Option Value)} (l:K.lookup N=some ⟨oc,od,.dict es ep,sl⟩) {x:Str} {r:Option Value} (e:PySem.W.nsIn K N x=some r):nsFind es x=r:=by
 unfold PySem.W.nsIn at e
 rw [l] at e
 dsimp only at e
 unfold nsFind findBy
 rw [<-Array.find?_toList]
 split at e
 ·rename_i en he
  cases e
  rw [he]
  rfl
 ·rename_i he
  split at e
  ·cases e
  ·cases e
   rw [he]
   rfl
theorem errK_mk {cn nm q f:Str} {C N fI:Addr} {bs:List Value} {sn:List Str} {sub:List Value} {ab:Bool} {col:Option Bool} {dd:Option Addr} {k0 k1 k2 k3 k5:Option Value} {oc:Value} {od:Option Addr} {es:Array DictEntry} {ep:Nat} {sl:Array (Option Value)}
  (X0:K.In h) (G:h.Ns mainGlobals mg) (g:PySem.W.nsIn K mainGlobals cn=some (some (.ref C))) (kp:PySem.W.keepIn K (.ref C)=true) (lC:K.lookup C=some (excClassObj nm q C N bs XD.bmE true sn sub ab col dd k0 k1 k2 k3 k5 "Exception.__new__")) (lN:K.lookup N=some ⟨oc,od,.dict es ep,sl⟩) (hs:strK es.toList=true)
  (i:PySem.W.nsIn K N "__init__"=some (some (.ref fI))) (n1:PySem.W.nsIn K N "__setattr__"=some none) (n2:PySem.W.nsIn K N "__getattribute__"=some none) (n3:PySem.W.nsIn K N "__getattr__"=some none) (n4:PySem.W.nsIn K N f=some none)
  (ty:PySem.W.typeIn K (.ref fI)=some (.type "function")):mg cn=some (.ref C)/\PySem.W.keepIn K (.ref C)=true/\ErrK K C fI f:=by
 refine ⟨PySem.W.mg_of X0 G g,kp,fun h X=>?_⟩
 obtain ⟨oI,ho,hc⟩:=Option.map_eq_some_iff.mp ty
 refine ⟨nsFind es,⟨nm,q,N,bs,sn,sub,ab,col,dd,k0,k1,k2,k3,k5,X _ _ lC,_,es,ep,X _ _ lN,rfl,fun e he=>?_,fun _=>rfl⟩,ns_look lN i,ns_look lN n1,ns_look lN n2,ns_look lN n3,ns_look lN n4,oI,X _ _ ho,hc⟩
 have hb:=List.all_eq_true.mp hs e (by simpa using he)
 revert hb
 cases e.key <;> simp
end
def LV:Nat:=14
def Sta (K:W.Frag) (H:Hp) (a:Addr) (xs:List V):Prop:=Fz H a (.lst xs)\/
  ∃(o:Obj) (its:Array Value) (n:Nat),K.lookup a=some o/\o.cls=.type "list"/\o.dict=none/\o.data=.seq its n/\its.size<=sizeLine/\Vals xs its.toList
theorem Sta.sq {K:W.Frag} {H:Hp} {a:Addr} {xs:List V} (h:Sta K H a xs):SqL K H a xs:=h.elim (fun z=>z.sqL) .inr
theorem Sta.keep {K:W.Frag} {F:List Addr} {H H':Hp} {a:Addr} {xs:List V} (h:Sta K H a xs) (k:Keep F H H'):Sta K H' a xs:=h.elim (fun z=>.inl (k.fz z)) .inr
theorem Sta.of {K:W.Frag} {H:Hp} {a:Addr} {xs:List V} (h:SqL K H a xs) (o:OnlyF H):Sta K H a xs:=by
 rcases h with (h|⟨w,h⟩)|h
 ·rcases o a with z|⟨x,u,z⟩
  ·rw [h] at z;cases z
  ·rw [h] at z;cases z
 ·exact .inl ⟨w,h⟩
 ·exact .inr h
def spAns (K:W.Frag):Sp:=fun vs H Q _=>∃(a:Addr) (ns:List Int),vs=[.ref a]/\Sta K H a (ns.map V.int)/\ns.length<=16000/\(∀x∈ns,0<=x/\x<=18446744073709551615)/\PyWqaeav.answers_asked ns=true/\
 ∀(H':Hp) (p:Addr),H' p=some (.lst ((PyWqaeav.answers ns).map V.int))->Q (.ref p) H'
section
variable {K:W.Frag} {h:Heap} {mg:Str->Option Value}
theorem mdAt_mk2 {cn m qual:Str} {st:Stmt} {ps:List Str} {C f:Addr} {oc:Value} {od an:Option Addr} {osl:Array (Option Value)} {kV doc pm cdv ct:Value} (X0:K.In h) (b:∀(kV doc pm:Value) (an:Option Addr) (cdv ct:Value),U (fun us=>bindArgs (PySem.W.fnOf m qual (defArgs st) (defBody st) (defScope st) .none kV doc pm an cdv ct) ⟨us,[]⟩=pure (ps.zip us)) ps:=by (repeat intro _);rfl) (g:PySem.W.nsIn K mainGlobals cn=some (some (.ref C)):=by k_is) (a:PySem.W.findIn K (.ref C) m=some (some (.ref f)):=by k_is)
  (l:K.lookup f=some ⟨oc,od,.func (PySem.W.fnOf m qual (defArgs st) (defBody st) (defScope st) .none kV doc pm an cdv ct),osl⟩:=by k_is) (c:PySem.W.codeIn K cdv qual=true:=by k_is) (k:PySem.W.keepIn K (.ref f)=true:=by k_is) (i:PySem.W.isFn K (.ref f)=true:=by k_is):
  MdAt K m qual st ps f (PySem.W.fnOf m qual (defArgs st) (defBody st) (defScope st) .none kV doc pm an cdv ct)/\Meth K C m f:=
 ⟨⟨fun_mk l c k,(fun_mk l c k).binds fun _ _ _ _ _ _=>(b _ _ _ _ _ _).all⟩,⟨a,i,k⟩⟩
theorem wkAt_mk2 {cn:Str} {C:Addr} {fs:List (Str×Addr)} (X0:K.In h) (g:PySem.W.nsIn K mainGlobals cn=some (some (.ref C))) (cl:Cls K C) (na:∀f∈(["circuit","schedule","labels","delta"]:List Str),NoAttr K C f) (me:∀p∈fs,Meth K C p.1 p.2):WkAt K C fs:=⟨cl,na,me⟩
theorem dicAt_mk2 {x:Str} {a:Addr} {es:List DictEntry} {ep:Nat} {kvs:List (Int×V)} (X:K.In h) (G:h.Ns mainGlobals mg) (e:PySem.W.nsIn K mainGlobals x=some (some (.ref a)))
  (l:K.lookup a=some ⟨.type "dict",none,.dict es.toArray ep,#[]⟩) (ek:entV es=kvs) (c:entsOk kvs es=true) (s:(a == sysModules)=false) (nd:(kvs.map (·.1)).Nodup):DicAt K mg x a kvs:=⟨PySem.W.mg_of X G e,⟨s,⟨es,ep,l,c⟩,nd⟩⟩
end
open Hush (Bytes ofBytes toBytes)
variable {P:Program} {w:World} {K:W.Frag} {mg:Str->Option Value} {base:Heap} {A:Ad} {C:Addr}
def bV (b:Bytes):List V:=b.map fun c=>.int (c.toNat:Int)
theorem bV_length (b:Bytes):(bV b).length=b.length:=List.length_map ..
theorem bV_get {b:Bytes} {i:Nat} {x:V} (h:(bV b)[i]?=some x):∃c,b[i]?=some c/\x=.int (c.toNat:Int):=by
 unfold bV at h
 rw [List.getElem?_map] at h
 cases e:b[i]? with
 |none=>rw [e] at h;cases h
 |some c=>rw [e] at h;exact ⟨c,rfl,(Option.some.inj h).symm⟩
theorem bV_at {b:Bytes} {i:Nat} {c:UInt8} (h:b[i]?=some c):(bV b)[i]?=some (.int (c.toNat:Int)):=by
 unfold bV
 rw [List.getElem?_map,h]
 rfl
theorem take_snoc {α:Type}:∀{l:List α} {i:Nat} {x:α},l[i]?=some x->l.take (i+1)=l.take i++[x]
 |[],i,x,h=>by simp at h
 |a::l,0,x,h=>by
  have e:a=x:=Option.some.inj h
  subst e
  rfl
 |a::l,i+1,x,h=>congrArg (a::·) (take_snoc (l:=l) (i:=i) (x:=x) h)
theorem sz {n m:Nat} (h:n<=m) (hm:m < 16777216:=by decide):n < sizeLine:=by
 rw [sizeLine_eq]
 omega
theorem iteB {A B:Prop} {b:Bool} (h1:b=true->A) (h2:b=false->B):if b=true then A else B:=by
 cases b with
 |true=>exact h1 rfl
 |false=>exact h2 rfl
def spNumberOf (K:W.Frag):Sp:=fun vs H Q _=>∃(a:Addr) (b:Bytes),vs=[.ref a]/\SqL K H a (bV b)/\Q (.int (ofBytes b:Nat)) H
theorem sc_number_of:FnScope ["row","number","byte"] ["row"] (defScope s_number_of):=scB
theorem drop_ofBytes {b:Bytes} {i:Nat} {c:UInt8} (h:b[i]?=some c):ofBytes (b.drop i)=c.toNat+256*ofBytes (b.drop (i+1)):=by
 obtain ⟨hl,e⟩:=List.getElem?_eq_some_iff.mp h
 rw [List.drop_eq_getElem_cons hl,e]
 rfl
theorem ok_number_of (T:Txt K mg A):FnOk P w K mg base CX0 1 A.f_number_of A.d_number_of ["row"] (spNumberOf K):=by
 refine T.number_of.fn.okA sc_number_of (fun _ _ _ _ H _ Q E hr h=>?_)
 obtain ⟨a,b,rfl,hs,k⟩:=h
 refine ⟨_,pss_cons (ps_set (i:=1) sc_number_of.nd rfl (Or.inl rfl) pe_int) (pss_cons (ps_for PassesOwn.never rfl (pi_reversed rfl T.n_reversed (pa_cons (pv 0) pa_nil)) (pg_name (i:=2) sc_number_of.nd rfl (Or.inl rfl))
  (pss_one (ps_set (i:=1) sc_number_of.nd rfl (Or.inl rfl) (pe_op op_add (pe_op op_mul (pv 1) pe_int) (pv 2))))) (pss_one (ps_ret (pv 1)))),?_⟩
 refine ⟨_,rfl,a,bV b,rfl,hs,for_rev (K:=K) (a:=a) (xs:=bV b) (fun i σ H'=>∃v,σ=[some (.ref a),some (.int (ofBytes (b.drop (b.length - i)):Nat)),v]/\H'=H) ⟨none,?_,rfl⟩ (fun i σ H' _ ⟨_,_,e⟩=>by rw [e];exact hs) ?_ ?_⟩
 ·rw [Nat.sub_zero,List.drop_length]
  rfl
 ·rintro i x σ H' hi hx ⟨v,rfl,rfl⟩
  rw [bV_length] at hi hx
  obtain ⟨c,hc,rfl⟩:=bV_get hx
  refine ⟨_,rfl,_,_,rfl,rfl,.inr ⟨by decide,by decide⟩,_,rfl,_,_,rfl,rfl,some (.int (c.toNat:Int)),?_,rfl⟩
  have e:=drop_ofBytes hc
  have e1:b.length - 1 - i=b.length - (i+1):=by omega
  have e2:b.length - 1 - i+1=b.length - i:=by omega
  rw [e2,e1] at e
  rw [e]
  show _=[_,some (V.int _),_]
  refine congrArg (fun z=>[some (V.ref a),some (V.int z),some (V.int (c.toNat:Int))]) ?_
  push_cast
  omega
 ·rintro σ H' ⟨v,rfl,rfl⟩
  refine ⟨_,rfl,?_⟩
  rw [bV_length,Nat.sub_self,List.drop_zero]
  exact k
def spRowOf:Sp:=fun vs H Q _=>∃n:Nat,vs=[.int (n:Int)]/\∀p,H p=none->Q (.ref p) (upd H p (.lst (bV (toBytes 16 n))))
theorem sc_row_of:FnScope ["number","shift"] ["number"] (defScope s_row_of):=scB
theorem ok_row_of (T:Txt K mg A):FnOk P w K mg base CX0 1 A.f_row_of A.d_row_of ["number"] spRowOf:=by
 refine T.row_of.fn.okA sc_row_of (fun _ _ _ _ H _ Q E hr h=>?_)
 obtain ⟨n,rfl,k⟩:=h
 refine ⟨_,pss_one (ps_ret (pe_lc (own:=[("shift",1)]) rfl sc_row_of.nd (pi_range3 rfl T.n_range (pa_cons pe_int (pa_cons pe_int (pa_cons pe_int pa_nil)))) (blkOk_by rfl)
  (fun _ _ _ _ _=>pg_name (i:=1) sc_row_of.nd rfl (Or.inl rfl)) (fun _ _ _ _ _=>pts_nil) (fun _ _ _ _ _=>pe_op op_and (pe_op op_shr (pv 0) (pv 1)) pe_int))),?_⟩
 refine ⟨0,128,8,16,rfl,⟨by decide,by decide,by decide,by decide⟩,fun D hD=>lc_rangeC (fun i H'=>H'=upd H D (.lst ((bV (toBytes 16 n)).take i))) rfl ?_ ?_⟩
 ·rintro i H' hi rfl
  refine ⟨rfl,_,rfl,_,rfl,_,_,rfl,rfl,by omega,_,_,rfl,rfl,_,upd_same,sz (m:=16) (by rw [List.length_take];omega),?_⟩
  have h1:=bV_at (HM.toBytes_get 16 n i hi)
  rw [upd_upd,take_snoc h1]
  refine congrArg (fun z=>upd H D (.lst (_++[V.int z]))) ?_
  have e1:(0+(i:Int)*8).toNat=8*i:=by omega
  have e2:((n:Int) / 2 ^ (8*i))=((n / 256 ^ i:Nat):Int):=by
   rw [show (256:Nat)=2 ^ 8 from rfl,<-Nat.pow_mul]
   simp
  show Builtin.bitAnd ((n:Int) / 2 ^ (0+(i:Int)*8).toNat) 255=_
  rw [e1,e2,ba255]
  rw [UInt8.toNat_ofNat',Nat.mod_mod_of_dvd _ (by decide)]
 ·rintro H' rfl
  rw [List.take_of_length_le (by rw [bV_length,HM.length_toBytes];exact Nat.le_refl _)]
  exact k D hD
def spTwice:Sp:=fun vs H Q _=>∃b:Bytes,vs=[.int (ofBytes b:Nat)]/\b.length=16/\Q (.int (ofBytes (Hush.twice b):Nat)) H
theorem sc_twice:FnScope ["x","doubled"] ["x"] (defScope s_twice):=scB
theorem ok_twice (T:Txt K mg A):FnOk P w K mg base CX0 1 A.f_twice A.d_twice ["x"] spTwice:=by
 refine T.twice.fn.okA sc_twice (fun _ _ _ _ H _ Q E hr h=>?_)
 obtain ⟨b,rfl,hb,k⟩:=h
 have iO:=T.i_OVER
 obtain ⟨N,hN⟩:∃N:Int,N=340282366920938463463374607431768211456:=⟨_,rfl⟩
 rw [<-hN] at iO
 refine ⟨_,pss_cons (ps_set (i:=1) sc_twice.nd rfl (Or.inl rfl) (pe_op op_mul pe_int (pv 0))) (pss_cons (ps_if (pt_cmpR op_lt (pv 1) (pe_gint rfl iO) (nomark _)) (pss_one (ps_ret (pv 1))) pss_nil)
  (pss_one (ps_ret (pe_op op_xor (pe_op op_sub (pv 1) (pe_gint rfl iO)) (pe_gint rfl T.i_FALLEN))))),?_⟩
 have e:=HM.ofBytes_twice hb
 refine ⟨_,rfl,_,_,rfl,rfl,.inl ⟨by decide,by decide⟩,?_⟩
 refine ⟨_,rfl,_,_,rfl,rfl,_,rfl,?_⟩
 refine iteB (fun c=>?_) (fun c=>?_)
 ·rw [dT] at c
  have c':2*ofBytes b < 2 ^ 128:=by omega
  rw [if_pos c'] at e
  rw [e] at k
  have e3:(2:Int)*((ofBytes b:Nat):Int)=((2*ofBytes b:Nat):Int):=by push_cast;rfl
  refine ⟨_,rfl,?_⟩
  show Q (V.int (2*((ofBytes b:Nat):Int))) H
  rw [e3]
  exact k
 ·rw [dF] at c
  have c':¬2*ofBytes b < 2 ^ 128:=by omega
  rw [if_neg c'] at e
  rw [e] at k
  have e3:(2:Int)*((ofBytes b:Nat):Int) - N=((2*ofBytes b - 2 ^ 128:Nat):Int):=by omega
  refine ⟨_,rfl,_,_,rfl,rfl,_,_,rfl,rfl,?_⟩
  show Q (V.int (Builtin.bitXor (2*((ofBytes b:Nat):Int) - N) 135)) H
  rw [e3,show (135:Int)=((135:Nat):Int) from rfl,bx]
  exact k
open HM (keyR nextKey tw stateR mixC colR shifted)
theorem Same.new {H:Hp} {a:Addr} {o:HO} (e:H a=none):Same H (upd H a o):=fun b o' h=>by
 rw [upd_ne (ne_of_none h e)]
 exact h
theorem Same.young {H H1:Hp} {a:Addr} {o:HO} (x:Same H H1) (e:H a=none):Same H (upd H1 a o):=fun b o' h=>by
 rw [upd_ne (ne_of_none h e)]
 exact x b o' h
theorem Same.fz {H H1:Hp} {a:Addr} {u:HO} (x:Same H H1) (e:Fz H a u):Fz H1 a u:=let ⟨w,e⟩:=e;⟨w,x _ _ e⟩
theorem get_getD {b:Bytes} {i:Nat} (h:i < b.length):b[i]?=some (b.getD i 0):=by
 rw [List.getD_eq_getElem?_getD,List.getElem?_eq_getElem h]
 rfl
theorem at_b {b:Bytes} {z:Int} {i:Nat} (e:z=(i:Int)) (h:i < b.length):atI (bV b) z=some (.int ((b.getD i 0).toNat:Int)):=at_of e (bV_at (get_getD h))
theorem v_sbox:v_S_BOX=HM.sboxT.map fun (n:Nat)=>V.int (n:Int):=by rfl
theorem v_dbl:v_DOUBLED=HM.dblT.map fun (n:Nat)=>V.int (n:Int):=by rfl
theorem len_sbox:Hush.SBOX.length=256:=by unfold Hush.SBOX;rw [List.length_map,List.length_range]
theorem sbox_at (c:UInt8):atI v_S_BOX (c.toNat:Int)=some (.int ((Hush.sub c).toNat:Int)):=by
 refine atI_nat ?_
 rw [v_sbox,<-HM.sbox_eq,List.map_map,List.getElem?_map]
 have h:c.toNat < Hush.SBOX.length:=by rw [len_sbox];exact c.toNat_lt
 rw [List.getElem?_eq_getElem h]
 show some _=some _
 unfold Hush.sub
 rw [List.getD_eq_getElem?_getD,List.getElem?_eq_getElem h]
 rfl
theorem dbl_at (c:UInt8):atI v_DOUBLED (c.toNat:Int)=some (.int ((Hush.xtime c).toNat:Int)):=by
 refine atI_nat ?_
 rw [v_dbl,<-HM.dbl_eq,List.map_map,List.getElem?_map,List.getElem?_range c.toNat_lt]
 show some _=some _
 simp [UInt8.ofNat_toNat]
theorem rcon_at {i:Nat} {x:V} (h:v_ROUND_CONSTANTS[i]?=some x):i < 10/\x=.int ((Hush.rcon i).toNat:Int):=by
 have e:v_ROUND_CONSTANTS=((List.range 10).map (fun n=>(Hush.rcon n).toNat)).map fun (n:Nat)=>V.int (n:Int):=by rw [HM.rcon_eq];rfl
 have hl:i < 10:=(List.getElem?_eq_some_iff.mp h).1
 rw [e,List.map_map,List.getElem?_map,List.getElem?_range hl] at h
 exact ⟨hl,(Option.some.inj h).symm⟩
theorem bx8 (a b:UInt8):Builtin.bitXor (a.toNat:Int) (b.toNat:Int)=(((a ^^^ b).toNat:Nat):Int):=by rw [bx,UInt8.toNat_xor]
def spRowSum (K:W.Frag):Sp:=fun vs H Q _=>∃(a b:Addr) (x y:Bytes),vs=[.ref a,.ref b]/\SqL K H a (bV x)/\SqL K H b (bV y)/\x.length=16/\y.length=16/\
 ∀(H':Hp) (p:Addr),Same H H'->H p=none->H' p=some (.lst (bV (Hush.add x y)))->Q (.ref p) H'
theorem sc_row_sum:FnScope ["first","second","a","b"] ["first","second"] (defScope s_row_sum):=scB
theorem ok_row_sum (T:Txt K mg A):FnOk P w K mg base CX0 1 A.f_row_sum A.d_row_sum ["first","second"] (spRowSum K):=by
 refine T.row_sum.fn.okA sc_row_sum (fun _ _ _ _ H _ Q E hr h=>?_)
 obtain ⟨a,b,x,y,rfl,ha,hb,hx,hy,k⟩:=h
 refine ⟨_,pss_one (ps_ret (pe_lc (own:=[("a",2),("b",3)]) rfl sc_row_sum.nd (pi_zip rfl T.n_zip (pa_cons (pv 0) (pa_cons (pv 1) pa_nil))) (blkOk_by rfl)
  (fun _ _ _ _ _=>gTupK K (n:=2) (pgs_cons (pg_name (i:=2) sc_row_sum.nd rfl (Or.inl rfl)) (pgs_cons (pg_name (i:=3) sc_row_sum.nd rfl (Or.inl rfl)) pgs_nil))) (fun _ _ _ _ _=>pts_nil) (fun _ _ _ _ _=>pe_op op_xor (pv 2) (pv 3)))),?_⟩
 have hl:(Hush.add x y).length=16:=by rw [HM.length_add _ _ (hx.trans hy.symm),hy]
 refine ⟨_,rfl,_,rfl,a,b,bV x,bV y,rfl,ha,hb,fun D hD=>lc_zip (K:=K) (fun i H'=>Same H H'/\H' D=some (.lst ((bV (Hush.add x y)).take i))) ⟨Same.new hD,upd_same⟩ (by rw [bV_length,bV_length,hx,hy])
  (fun i H' _ p=>⟨p.1.seq ha,p.1.seq hb⟩) ?_ ?_⟩
 ·rintro i u v H' Tp hu hv ⟨s1,hD'⟩ hT
  obtain ⟨c,hc,rfl⟩:=bV_get hu
  obtain ⟨d,hd,rfl⟩:=bV_get hv
  have hi:i < 16:=by rw [<-hx];exact (List.getElem?_eq_some_iff.mp hc).1
  refine ⟨Tp,_,rfl,SqT.of upd_same,rfl,_,_,rfl,_,_,rfl,rfl,rfl,_,rfl,_,rfl,_,_,rfl,rfl,(bV (Hush.add x y)).take i,?_,sz (m:=16) (by rw [List.length_take];omega),?_,?_⟩
  ·rw [upd_ne (ne_of_none hD' hT)]
   exact hD'
  ·exact Same.young (s1.trans (Same.new hT)) hD
  ·rw [upd_same]
   have e:(Hush.add x y)[i]?=some (c ^^^ d):=by
    unfold Hush.add
    rw [List.getElem?_zipWith,hc,hd]
   rw [take_snoc (bV_at e)]
   show some (HO.lst (_++[V.int (Builtin.bitXor (c.toNat:Int) (d.toNat:Int))]))=_
   rw [bx8]
 ·rintro H' ⟨s1,hD'⟩
  rw [List.take_of_length_le (by rw [bV_length,bV_length,hl,hx];exact Nat.le_refl _)] at hD'
  exact k H' D s1 hD hD'
def spSubst (K:W.Frag):Sp:=fun vs H Q _=>∃(a:Addr) (x:Bytes),vs=[.ref a]/\SqL K H a (bV x)/\x.length=16/\
 ∀p,H p=none->Q (.ref p) (upd H p (.lst (bV (Hush.shiftRows (x.map Hush.sub)))))
theorem sc_substituted:FnScope ["state","k"] ["state"] (defScope s_substituted):=scB
theorem sq_new {K:W.Frag} {H:Hp} {a D:Addr} {o:HO} {xs:List V} (h:SqL K H a xs) (e:H D=none):SqL K (upd H D o) a xs:=(Same.new e).seq h
theorem ok_substituted (T:Txt K mg A):FnOk P w K mg base CX0 1 A.f_substituted A.d_substituted ["state"] (spSubst K):=by
 refine T.substituted.fn.okA sc_substituted (fun _ _ _ _ H _ Q E hr h=>?_)
 obtain ⟨a,x,rfl,ha,hx,k⟩:=h
 refine ⟨_,pss_one (ps_ret (pe_lc (own:=[("k",1)]) rfl sc_substituted.nd (pi_tup (pe_gref rfl T.t_SHIFTED.mg_)) (blkOk_by rfl)
  (fun _ _ _ _ _=>pg_name (i:=1) sc_substituted.nd rfl (Or.inl rfl)) (fun _ _ _ _ _=>pts_nil) (fun _ _ _ _ _=>pe_ix (ixT K) (pe_gref rfl T.t_S_BOX.mg_) (pe_ix (ixL K) (pv 0) (pv 1) (fun _ _=>rfl)) (fun _ _=>rfl)))),?_⟩
 have e0:=HM.subShift_eq hx
 have ev:v_SHIFTED=shifted.map fun (n:Nat)=>V.int (n:Int):=rfl
 refine ⟨_,rfl,⟨_,T.t_SHIFTED.sq H⟩,fun D hD=>lc_tup (K:=K) (xs:=v_SHIFTED) (fun i H'=>H'=upd H D (.lst ((bV (Hush.shiftRows (x.map Hush.sub))).take i))) rfl (fun i H' _ _=>T.t_SHIFTED.sq H') ?_ ?_⟩
 ·rintro i u H' hu rfl
  rw [ev,List.getElem?_map] at hu
  obtain ⟨n,hn,rfl⟩:=Option.map_eq_some_iff.mp hu
  have hn16:n < 16:=(show ∀n∈shifted,n < 16 by decide) n (List.mem_of_getElem? hn)
  have hs:(Hush.shiftRows (x.map Hush.sub))[i]?=some (Hush.sub (x.getD n 0)):=by rw [e0,List.getElem?_map,hn];rfl
  refine ⟨rfl,_,rfl,_,rfl,a,_,_,_,rfl,rfl,sq_new ha hD,at_b rfl (by rw [hx];exact hn16),_,_,_,_,rfl,rfl,T.t_S_BOX.sq _,sbox_at _,_,upd_same,sz (m:=16) (by rw [List.length_take,bV_length,HM.length_shiftRows];omega),?_⟩
  rw [upd_upd,take_snoc (bV_at hs)]
 ·rintro H' rfl
  rw [List.take_of_length_le (by rw [bV_length,HM.length_shiftRows];decide)]
  exact k D hD
def spMixC:Sp:=fun vs H Q _=>∃p q r s:UInt8,vs=[.int (p.toNat:Int),.int (q.toNat:Int),.int (r.toNat:Int),.int (s.toNat:Int)]/\∀l,H l=none->Q (.ref l) (upd H l (.lst (bV (mixC p q r s))))
theorem sc_mixed_column:FnScope ["p","q","r","s","whole"] ["p","q","r","s"] (defScope s_mixed_column):=scB
theorem ok_mixed_column (T:Txt K mg A):FnOk P w K mg base CX0 1 A.f_mixed_column A.d_mixed_column ["p","q","r","s"] spMixC:=by
 refine T.mixed_column.fn.okA sc_mixed_column (fun _ _ _ _ H _ Q E hr h=>?_)
 obtain ⟨p,q,r,s,rfl,k⟩:=h
 refine ⟨_,pss_cons (ps_set (i:=4) sc_mixed_column.nd rfl (Or.inl rfl) (pe_op op_xor (pe_op op_xor (pe_op op_xor (pv 0) (pv 1)) (pv 2)) (pv 3)))
  (pss_one (ps_ret (pe_lst (pa_cons (pe_op op_xor (pe_op op_xor (pv 0) (pv 4)) (pe_ix (ixT K) (pe_gref rfl T.t_DOUBLED.mg_) (pe_op op_xor (pv 0) (pv 1)) (fun _ _=>rfl)))
   (pa_cons (pe_op op_xor (pe_op op_xor (pv 1) (pv 4)) (pe_ix (ixT K) (pe_gref rfl T.t_DOUBLED.mg_) (pe_op op_xor (pv 1) (pv 2)) (fun _ _=>rfl)))
   (pa_cons (pe_op op_xor (pe_op op_xor (pv 2) (pv 4)) (pe_ix (ixT K) (pe_gref rfl T.t_DOUBLED.mg_) (pe_op op_xor (pv 2) (pv 3)) (fun _ _=>rfl)))
   (pa_cons (pe_op op_xor (pe_op op_xor (pv 3) (pv 4)) (pe_ix (ixT K) (pe_gref rfl T.t_DOUBLED.mg_) (pe_op op_xor (pv 3) (pv 0)) (fun _ _=>rfl))) pa_nil))))))),?_⟩
 have d:∀a b:UInt8,atI v_DOUBLED (Builtin.bitXor (a.toNat:Int) (b.toNat:Int))=some (.int ((Hush.xtime (a ^^^ b)).toNat:Int)):=fun a b=>by rw [bx8];exact dbl_at _
 refine ⟨_,rfl,_,rfl,_,_,rfl,rfl,_,rfl,_,_,rfl,rfl,_,rfl,_,_,rfl,rfl,?_⟩
 refine ⟨_,rfl,_,rfl,_,_,rfl,rfl,_,rfl,_,rfl,_,_,rfl,rfl,_,_,_,_,rfl,rfl,T.t_DOUBLED.sq _,d _ _,_,_,rfl,rfl,?_⟩
 refine ⟨_,rfl,_,rfl,_,_,rfl,rfl,_,rfl,_,rfl,_,_,rfl,rfl,_,_,_,_,rfl,rfl,T.t_DOUBLED.sq _,d _ _,_,_,rfl,rfl,?_⟩
 refine ⟨_,rfl,_,rfl,_,_,rfl,rfl,_,rfl,_,rfl,_,_,rfl,rfl,_,_,_,_,rfl,rfl,T.t_DOUBLED.sq _,d _ _,_,_,rfl,rfl,?_⟩
 refine ⟨_,rfl,_,rfl,_,_,rfl,rfl,_,rfl,_,rfl,_,_,rfl,rfl,_,_,_,_,rfl,rfl,T.t_DOUBLED.sq _,d _ _,_,_,rfl,rfl,?_⟩
 refine ⟨by show 4<=sizeLine;decide,fun l hl=>?_⟩
 have z:=k l hl
 simp only [bx8]
 exact z
theorem upd_none {H:Hp} {t b:Addr} {o:HO} (h:upd H t o b=none):H b=none/\b≠t:=by
 by_cases e:b=t
 ·rw [e,upd_same] at h
  cases h
 ·rw [upd_ne e] at h
  exact ⟨h,e⟩
theorem bV_append (a b:Bytes):bV (a++b)=bV a++bV b:=List.map_append ..
theorem bV_take (a:Bytes) (i:Nat):bV (a.take i)=(bV a).take i:=List.map_take ..
structure SchedAt (H:Hp) (p:Addr) (k:Bytes):Prop where
 len:k.length=16
 ex:∃as:List Addr,Fz H p (.lst (as.map V.ref))/\as.length=11/\∀(r:Nat) (a:Addr),as[r]?=some a->Fz H a (.lst (bV (keyR k r)))
theorem SchedAt.keep {F:List Addr} {H H':Hp} {p:Addr} {k:Bytes} (h:SchedAt H p k) (s:Keep F H H'):SchedAt H' p k:=
 let ⟨as,h1,h2,h3⟩:=h.ex
 ⟨h.len,as,s.fz h1,h2,fun r a e=>s.fz (h3 r a e)⟩
theorem SchedAt.same {H H':Hp} {p:Addr} {k:Bytes} (h:SchedAt H p k) (s:Same H H'):SchedAt H' p k:=h.keep (s.keep (F:=[]))
def spMixCs (K:W.Frag):Sp:=fun vs H Q _=>∃(a:Addr) (x:Bytes),vs=[.ref a]/\SqL K H a (bV x)/\x.length=16/\
 ∀(H':Hp) (p:Addr),Same H H'->H p=none->H' p=some (.lst (bV (Hush.mixColumns x)))->Q (.ref p) H'
theorem sc_mixed_columns:FnScope ["state","mixed","c"] ["state"] (defScope s_mixed_columns):=scB
theorem ok_mixed_columns (T:Txt K mg A):FnOk P w K mg base CX0 2 A.f_mixed_columns A.d_mixed_columns ["state"] (spMixCs K):=by
 refine T.mixed_columns.fn.okA sc_mixed_columns (fun _ _ _ _ H _ Q E hr h=>?_)
 obtain ⟨a,x,rfl,ha,hx,k⟩:=h
 refine ⟨_,pss_cons (ps_set (i:=1) sc_mixed_columns.nd rfl (Or.inl rfl) (pe_lst pa_nil)) (pss_cons (ps_for PassesOwn.never rfl (pi_tup (pe_tup (pa_cons pe_int (pa_cons pe_int (pa_cons pe_int (pa_cons pe_int pa_nil)))))) (pg_name (i:=2) sc_mixed_columns.nd rfl (Or.inl rfl))
  (pss_one (ps_expr (pe_bm PySem.F.plainAttrs_list PySem.F.slot_list_extend PySem.F.type_list_extend mt_extend (pv 1) (pa_cons
   (pe_call (ok_mixed_column T) hr rfl T.mixed_column.mg_ T.mixed_column.fn.kp T.mixed_column.bi .nil pass0 (pa_cons (pe_ix (ixL K) (pv 0) (pv 2) (fun _ _=>rfl)) (pa_cons (pe_ix (ixL K) (pv 0) (pe_op op_add (pv 2) pe_int) (fun _ _=>rfl))
    (pa_cons (pe_ix (ixL K) (pv 0) (pe_op op_add (pv 2) pe_int) (fun _ _=>rfl)) (pa_cons (pe_ix (ixL K) (pv 0) (pe_op op_add (pv 2) pe_int) (fun _ _=>rfl)) pa_nil))))) pa_nil)))))
  (pss_one (ps_ret (pv 1)))),?_⟩
 refine ⟨Nat.zero_le _,fun M hM=>⟨by show 4<=sizeLine;decide,fun t ht=>?_⟩⟩
 obtain ⟨ht0,hne⟩:=upd_none ht
 generalize hxs:([.int 0,.int 4,.int 8,.int 12]:List V)=xs
 have hxl:xs.length=4:=by rw [<-hxs];rfl
 refine ⟨t,rfl,⟨_,SqT.of upd_same⟩,for_tup (K:=K) (a:=t) (xs:=xs) (fun i σ H'=>∃v,σ=[some (.ref a),some (.ref M),v]/\Same H H'/\H' M=some (.lst (bV ((List.range i).flatMap (colR x))))/\H' t=some (.tup xs))
  ⟨none,rfl,Same.young (Same.new hM) ht0,by rw [upd_ne hne.symm,upd_same];rfl,by rw [upd_same,<-hxs]⟩ (fun i σ H' _ ⟨_,_,_,_,h⟩=>SqT.of h) ?_ ?_⟩
 ·rintro i u σ H' hu ⟨v,rfl,s1,hM',ht'⟩
  have hi:i < 4:=by rw [<-hxl];exact (List.getElem?_eq_some_iff.mp hu).1
  have eu:u=.int ((4*i:Nat):Int):=by
   rw [<-hxs] at hu
   match i,hi,hu with
   |0,_,h=>exact (Option.some.inj h).symm
   |1,_,h=>exact (Option.some.inj h).symm
   |2,_,h=>exact (Option.some.inj h).symm
   |3,_,h=>exact (Option.some.inj h).symm
  subst eu
  have hs:=s1.seq ha
  refine ⟨_,rfl,.inl ⟨rfl,_,SqL.of hM'⟩,_,rfl,_,rfl,_,_,_,_,rfl,rfl,hs,at_b rfl (by omega),?_⟩
  refine ⟨_,rfl,_,rfl,_,_,rfl,rfl,_,_,_,_,rfl,rfl,hs,at_b (i:=4*i+1) (by push_cast;rfl) (by omega),?_⟩
  refine ⟨_,rfl,_,rfl,_,_,rfl,rfl,_,_,_,_,rfl,rfl,hs,at_b (i:=4*i+2) (by push_cast;rfl) (by omega),?_⟩
  refine ⟨_,rfl,_,rfl,_,_,rfl,rfl,_,_,_,_,rfl,rfl,hs,at_b (i:=4*i+3) (by push_cast;rfl) (by omega),?_⟩
  refine ⟨_,_,_,_,rfl,fun l hl=>?_⟩
  have hMl:M≠l:=ne_of_none hM' hl
  have htl:t≠l:=ne_of_none ht' hl
  have htM:t≠M:=hne
  refine ⟨M,l,_,_,rfl,rfl,by rw [upd_ne hMl];exact hM',upd_same,?_,_,rfl,Same.young (s1.trans (Same.new hl)) hM,?_,?_⟩
  ·rw [bV_length,bV_length]
   have:((List.range i).flatMap (colR x)).length=4*i:=by
    have hc:∀n,((List.range n).flatMap (colR x)).length=4*n:=fun n=>by
     induction n with
     |zero=>rfl
     |succ n ih=>
      rw [List.range_succ,List.flatMap_append,List.length_append,ih]
      show 4*n+4=_
      omega
    exact hc i
   rw [this]
   show 4*i+4<=sizeLine
   rw [sizeLine_eq]
   omega
  ·rw [upd_same,List.range_succ,List.flatMap_append,bV_append]
   simp only [List.flatMap_cons,List.flatMap_nil,List.append_nil]
   rfl
  ·rw [upd_ne htM,upd_ne htl]
   exact ht'
 ·rintro σ H' ⟨v,rfl,s1,hM',ht'⟩
  refine ⟨_,rfl,k H' M s1 hM ?_⟩
  rw [hM',hxl,HM.mixColumns_eq hx]
def spFollow (K:W.Frag):Sp:=fun vs H Q _=>∃(a:Addr) (k:Bytes) (c:UInt8),vs=[.ref a,.int (c.toNat:Int)]/\SqL K H a (bV k)/\k.length=16/\
 ∀(H':Hp) (p:Addr),Same H H'->H p=none->Fz H' p (.lst (bV (nextKey k c)))->Q (.ref p) H'
theorem sc_following_key:FnScope ["key","constant","turned","following","k","before"] ["key","constant"] (defScope s_following_key):=scB
def tw0 (k:Bytes):Bytes:=[Hush.sub (k.getD 13 0),Hush.sub (k.getD 14 0),Hush.sub (k.getD 15 0),Hush.sub (k.getD 12 0)]
theorem ok_following_key (T:Txt K mg A):FnOk P w K mg base CX0 1 A.f_following_key A.d_following_key ["key","constant"] (spFollow K):=by
 refine T.following_key.fn.okA sc_following_key (fun _ _ _ _ H _ Q E hr h=>?_)
 obtain ⟨a,x,c,rfl,ha,hx,k⟩:=h
 refine ⟨_,pss_cons (ps_setLc (i:=2) (own:=[("k",4)]) rfl sc_following_key.nd rfl rfl (sw_true rfl rfl rfl rfl) (pi_tup (pe_tup (pa_cons pe_int (pa_cons pe_int (pa_cons pe_int (pa_cons pe_int pa_nil)))))) (blkOk_by rfl)
   (fun _ _ _ _ _=>pg_name (i:=4) sc_following_key.nd rfl (Or.inl rfl)) (fun _ _ _ _ _=>pts_nil) (fun _ _ _ _ _=>pe_ix (ixT K) (pe_gref rfl T.t_S_BOX.mg_) (pe_ix (ixL K) (pv 0) (pv 4) (fun _ _=>rfl)) (fun _ _=>rfl)))
  (pss_cons (ps_asg (pe_op op_xor (pe_ix (ixL K) (pv 2) pe_int (fun _ _=>rfl)) (pv 1)) (pg_sub (pv 2) pe_int set_list))
  (pss_cons (ps_set (i:=3) sc_following_key.nd rfl (Or.inl rfl) (pe_lst pa_nil))
  (pss_cons (ps_for PassesOwn.never rfl (pi_range1 rfl T.n_range (pa_cons pe_int pa_nil)) (pg_name (i:=4) sc_following_key.nd rfl (Or.inl rfl))
   (pss_cons (ps_set (i:=5) sc_following_key.nd rfl (Or.inl rfl) (pe_ifExp (pt_cmpR op_lt (pv 4) pe_int (nomark _)) (pe_ix (ixL K) (pv 2) (pv 4) (fun _ _=>rfl)) (pe_ix (ixL K) (pv 3) (pe_op op_sub (pv 4) pe_int) (fun _ _=>rfl))))
   (pss_one (ps_expr (pe_bm PySem.F.plainAttrs_list PySem.F.slot_list_append PySem.F.type_list_append mt_append (pv 3) (pa_cons (pe_op op_xor (pe_ix (ixL K) (pv 0) (pv 4) (fun _ _=>rfl)) (pv 5)) pa_nil))))))
  (pss_one (ps_ret (pe_frz (pv 3))))))),?_⟩
 refine ⟨by show 4<=sizeLine;decide,fun t ht=>⟨t,rfl,⟨_,SqT.of upd_same⟩,fun D hD=>?_⟩⟩
 obtain ⟨hD0,hDt⟩:=upd_none hD
 have st:Same H (upd H t (.tup [.int 13,.int 14,.int 15,.int 12])):=Same.new ht
 have h4:(bV (tw0 x)).length=4:=rfl
 refine lc_tup (K:=K) (a:=t) (xs:=[.int 13,.int 14,.int 15,.int 12]) (fun i H'=>H'=upd (upd H t (.tup [.int 13,.int 14,.int 15,.int 12])) D (.lst ((bV (tw0 x)).take i))) rfl (fun i H' _ e=>by rw [e];exact SqT.of (by rw [upd_ne hDt.symm];exact upd_same)) ?_ ?_
 ·rintro i u H' hu rfl
  obtain ⟨n,hn,rfl,hn2⟩:∃n:Nat,n < 16/\u=.int (n:Int)/\(tw0 x)[i]?=some (Hush.sub (x.getD n 0)):=by
   match i,hu with
   |0,h=>exact ⟨13,by decide,(Option.some.inj h).symm,rfl⟩
   |1,h=>exact ⟨14,by decide,(Option.some.inj h).symm,rfl⟩
   |2,h=>exact ⟨15,by decide,(Option.some.inj h).symm,rfl⟩
   |3,h=>exact ⟨12,by decide,(Option.some.inj h).symm,rfl⟩
   |j+4,h=>simp at h
  refine ⟨rfl,_,rfl,_,rfl,a,_,_,_,rfl,rfl,sq_new (st.seq ha) hD,at_b rfl (by omega),_,_,_,_,rfl,rfl,T.t_S_BOX.sq _,sbox_at _,_,upd_same,sz (m:=4) (by rw [List.length_take,h4];omega),?_⟩
  rw [upd_upd,take_snoc (bV_at hn2)]
 ·rintro H' e
  have e:H'=upd (upd H t (.tup [.int 13,.int 14,.int 15,.int 12])) D (.lst (bV (tw0 x))):=e.trans (congrArg (fun z=>upd _ D (.lst z)) (List.take_of_length_le (Nat.le_of_eq h4)))
  subst e
  generalize hH1:upd H t (.tup [.int 13,.int 14,.int 15,.int 12])=H1 at st hD
  refine ⟨_,rfl,_,_,_,_,rfl,rfl,SqL.of upd_same,at_b (i:=0) rfl (by show 0 < 4;decide),_,rfl,_,_,rfl,rfl,_,rfl,D,_,_,0,rfl,rfl,upd_same,rfl,?_⟩
  rw [upd_upd]
  have e1:(bV (tw0 x)).set 0 (V.int (Builtin.bitXor (((tw0 x).getD 0 0).toNat:Int) (c.toNat:Int)))=bV (tw x c):=by
   rw [bx8]
   rfl
  refine (show _=_ from congrArg (fun z=>upd H1 D (.lst z)) e1) ▸ ?_
  refine ⟨Nat.zero_le _,fun F hF=>⟨16,rfl,by decide,by decide,?_⟩⟩
  obtain ⟨hF1,hFD⟩:=upd_none hF
  have sD:Same H (upd H1 D (.lst (bV (tw x c)))):=Same.young st hD0
  have hF0:H F=none:=sD.free hF
  refine for_range (lo:=0) (n:=16) (fun i σ H'=>∃v4 v5,σ=[some (.ref a),some (.int (c.toNat:Int)),some (.ref D),some (.ref F),v4,v5]/\H'=upd (upd H1 D (.lst (bV (tw x c)))) F (.lst (bV ((nextKey x c).take i)))) ⟨_,_,rfl,rfl⟩ ?_ ?_
  ·rintro i σ H' hi ⟨v4,v5,rfl,rfl⟩
   have hln:(nextKey x c).length=16:=HM.length_nextKey hx
   have hg:=HM.nextKey_get (c:=c) hx hi
   have hDat:upd (upd H1 D (.lst (bV (tw x c)))) F (.lst (bV ((nextKey x c).take i))) D=some (.lst (bV (tw x c))):=by rw [upd_ne hFD.symm];exact upd_same
   have hsa:SqL K (upd (upd H1 D (.lst (bV (tw x c)))) F (.lst (bV ((nextKey x c).take i)))) a (bV x):=(Same.young sD hF0).seq ha
   have fin:∀y:UInt8,(nextKey x c)[i]?=some (x.getD i 0 ^^^ y)->(tSeq tNext tNext:TS)=tSeq tNext tNext:=fun _ _=>rfl
   refine ⟨_,rfl,_,_,rfl,rfl,_,rfl,iteB (fun ci=>?_) fun ci=>?_⟩
   ·rw [dT] at ci
    have ci':i < 4:=by omega
    rw [if_pos ci'] at hg
    refine ⟨_,rfl,_,rfl,D,_,_,_,rfl,rfl,SqL.of hDat,at_b (i:=i) (by omega) (by show i < 4;exact ci'),?_⟩
    refine ⟨_,rfl,.inl ⟨rfl,_,SqL.of upd_same⟩,_,rfl,_,rfl,a,_,_,_,rfl,rfl,hsa,at_b (i:=i) (by omega) (by omega),_,rfl,_,_,rfl,rfl,F,_,_,rfl,rfl,upd_same,sz (m:=16) (by rw [bV_length,List.length_take];omega),_,_,rfl,?_⟩
    rw [upd_upd,bV_take,bV_take,take_snoc (bV_at hg)]
    show upd _ F (.lst (_++[V.int (Builtin.bitXor _ _)]))=_
    rw [bx8]
   ·rw [dF] at ci
    have ci':¬i < 4:=by omega
    rw [if_neg ci'] at hg
    refine ⟨_,rfl,_,rfl,_,_,rfl,rfl,F,_,_,_,rfl,rfl,SqL.of upd_same,at_b (i:=i - 4) (by omega) (by rw [List.length_take];omega),?_⟩
    refine ⟨_,rfl,.inl ⟨rfl,_,SqL.of upd_same⟩,_,rfl,_,rfl,a,_,_,_,rfl,rfl,hsa,at_b (i:=i) (by omega) (by omega),_,rfl,_,_,rfl,rfl,F,_,_,rfl,rfl,upd_same,sz (m:=16) (by rw [bV_length,List.length_take];omega),_,_,rfl,?_⟩
    have e3:((nextKey x c).take i).getD (i - 4) 0=(nextKey x c).getD (i - 4) 0:=by
     rw [List.getD_eq_getElem?_getD,List.getD_eq_getElem?_getD,List.getElem?_take,if_pos (by omega)]
    rw [upd_upd,bV_take,bV_take,take_snoc (bV_at hg)]
    show upd _ F (.lst (_++[V.int (Builtin.bitXor _ _)]))=_
    rw [e3,bx8]
  ·rintro σ H' ⟨v4,v5,rfl,rfl⟩
   rw [List.take_of_length_le (Nat.le_of_eq (HM.length_nextKey hx))]
   refine ⟨_,rfl,F,_,rfl,upd_same,trivial,fun od=>?_⟩
   rw [upd_upd]
   exact k _ F (Same.young sD hF0) hF0 ⟨od,upd_same⟩
def spSched (K:W.Frag):Sp:=fun vs H Q _=>∃(a:Addr) (k:Bytes),vs=[.ref a]/\SqL K H a (bV k)/\k.length=16/\
 ∀(H':Hp) (p:Addr),Same H H'->H p=none->SchedAt H' p k->Q (.ref p) H'
theorem sc_schedule_of:FnScope ["key","schedule","constant"] ["key"] (defScope s_schedule_of):=scB
theorem ok_schedule_of (T:Txt K mg A):FnOk P w K mg base CX0 2 A.f_schedule_of A.d_schedule_of ["key"] (spSched K):=by
 refine T.schedule_of.fn.okA sc_schedule_of (fun _ _ _ _ H _ Q E hr h=>?_)
 obtain ⟨a,x,rfl,ha,hx,k⟩:=h
 refine ⟨_,pss_cons (ps_set (i:=1) sc_schedule_of.nd rfl (Or.inl rfl) (pe_lst (pa_cons (pe_frz (pe_callTy (listS K) (by rfl) T.n_list PyProof.Rows.boot_list (pa_cons (pv 0) pa_nil))) pa_nil)))
  (pss_cons (ps_for PassesOwn.never rfl (pi_tup (pe_gref rfl T.t_ROUND_CONSTANTS.mg_)) (pg_name (i:=2) sc_schedule_of.nd rfl (Or.inl rfl))
   (pss_one (ps_expr (pe_bm PySem.F.plainAttrs_list PySem.F.slot_list_append PySem.F.type_list_append mt_append (pv 1) (pa_cons
    (pe_call (ok_following_key T) hr rfl T.following_key.mg_ T.following_key.fn.kp T.following_key.bi .nil pass0 (pa_cons (pe_ix (ixL K) (pv 1) (pe_un un_neg pe_int) (fun _ _=>rfl)) (pa_cons (pv 2) pa_nil))) pa_nil)))))
  (pss_one (ps_ret (pe_frz (pv 1))))),?_⟩
 refine ⟨_,rfl,a,_,rfl,.inl ha,fun l hl=>⟨l,_,rfl,upd_same,trivial,fun od=>⟨by show 1<=sizeLine;decide,fun S hS=>?_⟩⟩⟩
 rw [upd_upd] at hS ⊢
 have hSl:=upd_none hS
 have s0:Same H (upd H l (.frz od (.lst (bV x)))):=Same.new hl
 refine ⟨_,rfl,⟨_,T.t_ROUND_CONSTANTS.sq _⟩,for_tup (K:=K) (xs:=v_ROUND_CONSTANTS) (fun i σ H'=>∃v,σ=[some (.ref a),some (.ref S),v]/\Same H H'/\∃as:List Addr,as.length=i+1/\H' S=some (.lst (as.map V.ref))/\∀(r:Nat) (c:Addr),as[r]?=some c->Fz H' c (.lst (bV (keyR x r))))
  ⟨none,rfl,Same.young s0 hSl.1,[l],rfl,upd_same,fun r c e=>?_⟩ (fun i σ H' _ _=>T.t_ROUND_CONSTANTS.sq H') ?_ ?_⟩
 ·match r,e with
  |0,e=>
   cases e
   exact ⟨od,by rw [upd_ne hSl.2.symm];exact upd_same⟩
 ·rintro i u σ H' hu ⟨v,rfl,s1,as,hlen,hS',hf⟩
  obtain ⟨hi,rfl⟩:=rcon_at hu
  obtain ⟨c,hc⟩:∃c,as[i]?=some c:=⟨_,List.getElem?_eq_getElem (by omega)⟩
  obtain ⟨oc,hfc⟩:=hf i c hc
  have hat:atI (as.map V.ref) (-1)=some (V.ref c):=by
   have e:as=as.take i++[c]:=by rw [<-take_snoc hc,List.take_of_length_le (by omega)]
   rw [e,List.map_append]
   exact atI_last _ _
  refine ⟨_,rfl,.inl ⟨rfl,_,SqL.of hS'⟩,_,rfl,_,rfl,S,_,_,_,rfl,rfl,SqL.of hS',hat,_,rfl,c,keyR x i,Hush.rcon i,rfl,Fz.sqL ⟨oc,hfc⟩,HM.length_keyR hx i,fun H2 p s2 hp fz=>?_⟩
  have hSp:S≠p:=ne_of_none hS' hp
  have hS2:=s2 _ _ hS'
  refine ⟨S,_,_,rfl,rfl,hS2,sz (m:=11) (by rw [List.length_map];omega),_,rfl,Same.young (s1.trans s2) hSl.1,as++[p],by rw [List.length_append,hlen];rfl,by rw [upd_same,List.map_append];rfl,fun r d e=>?_⟩
  have nS:∀{d:Addr} {o:HO},Fz H2 d o->Fz (upd H2 S (.lst (as.map V.ref++[V.ref p]))) d o:=fun {d o} ⟨w,z⟩=>⟨w,by rw [upd_ne (Fz.ne ⟨w,z⟩ hS2 (fun q=>q))];exact z⟩
  by_cases hr1:r < as.length
  ·rw [List.getElem?_append_left hr1] at e
   exact nS (Same.fz s2 (hf r d e))
  ·rw [List.getElem?_append_right (by omega)] at e
   have e0:r=i+1:=by
    have:=(List.getElem?_eq_some_iff.mp e).1
    simp at this
    omega
   subst e0
   rw [hlen,Nat.sub_self] at e
   cases e
   exact nS fz
 ·rintro σ H' ⟨v,rfl,s1,as,hlen,hS',hf⟩
  refine ⟨_,rfl,S,_,rfl,hS',trivial,fun od2=>k _ S (Same.young s1 hSl.1) hSl.1 ⟨hx,as,⟨od2,upd_same⟩,hlen,fun r c e=>?_⟩⟩
  obtain ⟨w2,z⟩:=hf r c e
  exact ⟨w2,by rw [upd_ne (Fz.ne ⟨w2,z⟩ hS' (fun q=>q))];exact z⟩
def spEnc:Sp:=fun vs H Q _=>∃(a:Addr) (k x:Bytes),vs=[.ref a,.int (ofBytes x:Nat)]/\SchedAt H a k/\x.length=16/\∀H':Hp,Same H H'->Q (.int (ofBytes (Hush.aes k x):Nat)) H'
theorem sc_encrypt:FnScope ["schedule","x","state","round_key"] ["schedule","x"] (defScope s_encrypt):=scB
theorem ok_encrypt (T:Txt K mg A):FnOk P w K mg base CX0 3 A.f_encrypt A.d_encrypt ["schedule","x"] spEnc:=by
 refine T.encrypt.fn.okA sc_encrypt (fun _ _ _ _ H _ Q E hr h=>?_)
 obtain ⟨a,ky,x,rfl,hsch,hx,k⟩:=h
 have hr1:Room 1 _:=hr.mono (by decide)
 refine ⟨_,pss_cons (ps_set (i:=2) sc_encrypt.nd rfl (Or.inl rfl) (pe_call (ok_row_sum T) hr1 rfl T.row_sum.mg_ T.row_sum.fn.kp T.row_sum.bi .nil pass0 (pa_cons (pe_call (ok_row_of T) hr1 rfl T.row_of.mg_ T.row_of.fn.kp T.row_of.bi .nil pass0 (pa_cons (pv 1) pa_nil)) (pa_cons (pe_ix (ixL K) (pv 0) pe_int (fun _ _=>rfl)) pa_nil))))
  (pss_cons (ps_for PassesOwn.never rfl (pi_list (pe_slice (slL K) (pv 0) (po_some pe_int) (po_some pe_int))) (pg_name (i:=3) sc_encrypt.nd rfl (Or.inl rfl))
   (pss_one (ps_set (i:=2) sc_encrypt.nd rfl (Or.inl rfl) (pe_call (ok_row_sum T) hr1 rfl T.row_sum.mg_ T.row_sum.fn.kp T.row_sum.bi .nil pass0 (pa_cons (pe_call (ok_mixed_columns T) hr rfl T.mixed_columns.mg_ T.mixed_columns.fn.kp T.mixed_columns.bi .nil pass0 (pa_cons
    (pe_call (ok_substituted T) hr1 rfl T.substituted.mg_ T.substituted.fn.kp T.substituted.bi .nil pass0 (pa_cons (pv 2) pa_nil)) pa_nil)) (pa_cons (pv 3) pa_nil))))))
  (pss_one (ps_ret (pe_call (ok_number_of T) hr1 rfl T.number_of.mg_ T.number_of.fn.kp T.number_of.bi .nil pass0 (pa_cons (pe_call (ok_row_sum T) hr1 rfl T.row_sum.mg_ T.row_sum.fn.kp T.row_sum.bi .nil pass0 (pa_cons
   (pe_call (ok_substituted T) hr1 rfl T.substituted.mg_ T.substituted.fn.kp T.substituted.bi .nil pass0 (pa_cons (pv 2) pa_nil)) (pa_cons (pe_ix (ixL K) (pv 0) pe_int (fun _ _=>rfl)) pa_nil))) pa_nil))))),?_⟩
 have hk:=hsch.len
 obtain ⟨as,hf,hlen,hks⟩:=hsch.ex
 have get:∀r,r<=10->∃c,as[r]?=some c/\Fz H c (.lst (bV (keyR ky r))):=fun r hr=>by
  obtain ⟨c,hc⟩:∃c,as[r]?=some c:=⟨_,List.getElem?_eq_getElem (by omega)⟩
  exact ⟨c,hc,hks r c hc⟩
 obtain ⟨c0,hc0,hf0⟩:=get 0 (by decide)
 obtain ⟨c10,hc10,hf10⟩:=get 10 (by decide)
 refine ⟨_,rfl,_,rfl,fun l hl=>?_⟩
 have s1:Same H (upd H l (.lst (bV (toBytes 16 (ofBytes x))))):=Same.new hl
 rw [HM.toBytes16 hx] at s1 ⊢
 refine ⟨_,rfl,a,_,_,_,rfl,rfl,Fz.sqL (Same.fz s1 hf),atI_nat (j:=0) (v:=V.ref c0) (by rw [List.getElem?_map,hc0];rfl),l,c0,x,ky,rfl,SqL.of upd_same,Fz.sqL (Same.fz s1 hf0),hx,hk,fun H1 p s2 hp hp1=>?_⟩
 have s3:=s1.trans s2
 refine ⟨_,rfl,_,rfl,_,rfl,a,_,rfl,Fz.sqL (Same.fz s3 hf),fun sl hsl=>⟨sl,rfl,⟨_,SqL.of upd_same⟩,?_⟩⟩
 have s4:Same H (upd H1 sl (.lst (cutV (as.map V.ref) (some 1) (some 10)))):=s3.trans (Same.new hsl)
 have hcut:cutV (as.map V.ref) (some 1) (some 10)=((as.drop 1).take 9).map V.ref:=by
  unfold cutV
  rw [List.length_map,hlen,List.map_take,List.map_drop]
  rfl
 rw [hcut] at s4 ⊢
 have hl9:(((as.drop 1).take 9).map V.ref).length=9:=by rw [List.length_map,List.length_take,List.length_drop];omega
 refine for_list (K:=K) (a:=sl) (xs:=((as.drop 1).take 9).map V.ref) (fun i σ H'=>∃q v,σ=[some (.ref a),some (.int (ofBytes x:Nat)),some (.ref q),v]/\Same H H'/\H' q=some (.lst (bV (stateR ky x i)))/\H' sl=some (.lst (((as.drop 1).take 9).map V.ref)))
  ⟨p,none,rfl,s4,by rw [upd_ne (ne_of_none hp1 hsl)];exact hp1,upd_same⟩ (fun i σ H' _ ⟨_,_,_,_,_,h⟩=>SqL.of h) ?_ ?_
 ·rintro i u σ H' hu ⟨q,v,rfl,s5,hq,hsl'⟩
  have hi:i < 9:=by rw [<-hl9];exact (List.getElem?_eq_some_iff.mp hu).1
  obtain ⟨c,hc,hfc⟩:=get (i+1) (by omega)
  rw [List.getElem?_map,List.getElem?_take,if_pos hi,List.getElem?_drop,Nat.add_comm 1 i,hc] at hu
  cases hu
  have hst:=HM.length_stateR hk hx i
  refine ⟨_,rfl,q,_,rfl,SqL.of hq,hst,fun p2 hp2=>?_⟩
  refine ⟨p2,_,rfl,SqL.of upd_same,HM.length_shiftRows _,fun H6 p3 s6 hp3 hm=>?_⟩
  have s7:=(s5.trans (Same.new hp2)).trans s6
  refine ⟨_,rfl,p3,c,_,_,rfl,SqL.of hm,Fz.sqL (Same.fz s7 hfc),HM.length_mixColumns _,HM.length_keyR hk _,fun H7 p4 s8 hp4 hm4=>?_⟩
  refine ⟨p4,_,rfl,s7.trans s8,hm4,s8 _ _ (s6 _ _ ?_)⟩
  rw [upd_ne (ne_of_none hsl' hp2)]
  exact hsl'
 ·rintro σ H' ⟨q,v,rfl,s5,hq,hsl'⟩
  rw [hl9] at hq
  have hst:=HM.length_stateR hk hx 9
  refine ⟨_,rfl,q,_,rfl,SqL.of hq,hst,fun p2 hp2=>?_⟩
  have s6:=s5.trans (Same.new hp2 (o:=.lst (bV (Hush.shiftRows ((stateR ky x 9).map Hush.sub)))))
  refine ⟨_,rfl,a,_,_,_,rfl,rfl,Fz.sqL (Same.fz s6 hf),atI_nat (j:=10) (v:=V.ref c10) (by rw [List.getElem?_map,hc10];rfl),p2,c10,_,_,rfl,SqL.of upd_same,Fz.sqL (Same.fz s6 hf10),HM.length_shiftRows _,HM.length_keyR hk _,fun H7 p4 s8 hp4 hm4=>?_⟩
  refine ⟨p4,_,rfl,SqL.of hm4,?_⟩
  rw [<-HM.aes_eq hk]
  exact k H7 (s6.trans s8)
def spMix:Sp:=fun vs H Q _=>∃(a:Addr) (k x t:Bytes),vs=[.ref a,.int (ofBytes x:Nat),.int (ofBytes t:Nat)]/\SchedAt H a k/\x.length=16/\t.length=16/\∀H':Hp,Same H H'->Q (.int (ofBytes (Hush.mix k x t):Nat)) H'
theorem sc_mix:FnScope ["schedule","x","t","y"] ["schedule","x","t"] (defScope s_mix):=scB
theorem xb {a b:Bytes} (ha:a.length=16) (hb:b.length=16):Builtin.bitXor (ofBytes a:Nat) (ofBytes b:Nat)=((ofBytes (Hush.add a b):Nat):Int):=by rw [bx,HM.ofBytes_add a b (ha.trans hb.symm)]
theorem la {a b:Bytes} (ha:a.length=16) (hb:b.length=16):(Hush.add a b).length=16:=by rw [HM.length_add _ _ (ha.trans hb.symm),hb]
theorem ok_mix (T:Txt K mg A):FnOk P w K mg base CX0 4 A.f_mix A.d_mix ["schedule","x","t"] spMix:=by
 refine T.mix.fn.okA sc_mix (fun _ _ _ _ H _ Q E hr h=>?_)
 obtain ⟨a,ky,x,t,rfl,hsch,hx,ht,k⟩:=h
 refine ⟨_,pss_cons (ps_set (i:=3) sc_mix.nd rfl (Or.inl rfl) (pe_op op_xor (pe_call (ok_twice T) (rm hr) rfl T.twice.mg_ T.twice.fn.kp T.twice.bi .nil pass0 (pa_cons (pv 1) pa_nil)) (pv 2)))
  (pss_one (ps_ret (pe_op op_xor (pe_call (ok_encrypt T) hr rfl T.encrypt.mg_ T.encrypt.fn.kp T.encrypt.bi .nil pass0 (pa_cons (pv 0) (pa_cons (pv 3) pa_nil))) (pv 3)))),?_⟩
 have h1:=HM.length_twice x
 refine ⟨_,rfl,x,rfl,hx,_,rfl,_,_,rfl,rfl,_,rfl,_,rfl,a,ky,Hush.add (Hush.twice x) t,?_,hsch,la h1 ht,fun H1 s1=>⟨_,rfl,_,_,rfl,rfl,?_⟩⟩
 ·show [V.ref a,V.int (Builtin.bitXor _ _)]=_
  rw [xb h1 ht]
 ·show Q (V.int (Builtin.bitXor _ (Builtin.bitXor _ _))) H1
  rw [xb h1 ht,xb (HM.length_aes hsch.len) (la h1 ht)]
  exact k H1 s1
def lookF (fs:List (Int×List V)) (k:Int):Option (List V):=(fs.find? fun f=>decide (f.1=k)).map (·.2)
theorem lookF_of {K:W.Frag} {fs:List (Int×List V)} {kvs:List (Int×V)} (p:Paired (PTu K) fs kvs) (k:Int):
  (lookF fs k=none->look kvs k=none)/\∀xs,lookF fs k=some xs->∃t,look kvs k=some (V.ref t)/\∀H:Hp,SqT K H t xs:=by
 induction p with
 |nil=>exact ⟨fun _=>rfl,fun xs h=>(by cases h)⟩
 |@cons f kv fs kvs h r ih=>
  obtain ⟨e,t,et,hs⟩:=h
  unfold lookF look at ih ⊢
  rw [List.find?_cons,List.find?_cons,<-e]
  by_cases c:f.1=k
  ·rw [decide_eq_true c]
   refine ⟨fun h=>(by cases h),fun xs h=>?_⟩
   cases h
   exact ⟨t,congrArg some et,hs⟩
  ·rw [decide_eq_false c]
   exact ih
theorem odd_tab:∀f∈List.range 16,(Hush.odd f=true->lookF v_ODD (f:Int)=some [.int ((Hush.turnA f).toNat:Int),.int ((Hush.turnB f).toNat:Int),.int ((Hush.rest f).toNat:Int)])/\(Hush.odd f=false->lookF v_ODD (f:Int)=none):=by decide+kernel
def evenZ (a b d:Bytes) (f:Nat):Bytes:=if f=0 then Hush.none16 else if f=15 then d else if f=12 then a else if f=3 then Hush.add a d else if f=10 then b else if f=5 then Hush.add b d else if f=6 then Hush.add a b else Hush.add (Hush.add a b) d
theorem zero_even {a b d key:Bytes} {f g:Nat} (h:Hush.odd f=false):Hush.zero a b d key f g=evenZ a b d f:=by
 unfold Hush.zero evenZ
 rw [if_neg (by rw [h];decide)]
theorem add_none {a:Bytes} (h:a.length=16):Hush.add a Hush.none16=a:=by
 apply HM.ofBytes_inj
 ·rw [la h HM.length_none16,h]
 ·rw [HM.ofBytes_add _ _ (h.trans HM.length_none16.symm),HM.ofBytes_none16,Nat.xor_zero]
theorem one_even {a b t key:Bytes} {f g:Nat} (h:Hush.odd f=false) (hf:f < 16) (ha:a.length=16) (hb:b.length=16):Hush.one a b t key f g=evenZ a b Hush.none16 f:=by
 have hab:=la ha hb
 unfold Hush.one evenZ
 rw [if_neg (by rw [h];decide)]
 have hm:f∈[0,15,12,3,10,5,6,9]:=(show ∀f∈List.range 16,Hush.odd f=false->f∈[0,15,12,3,10,5,6,9] by decide) f (List.mem_range.mpr hf) h
 simp only [List.mem_cons,List.not_mem_nil,or_false] at hm
 rcases hm with rfl|rfl|rfl|rfl|rfl|rfl|rfl|rfl <;> simp [add_none,ha,hb,hab]
theorem length_evenZ {a b d:Bytes} (ha:a.length=16) (hb:b.length=16) (hd:d.length=16) (f:Nat):(evenZ a b d f).length=16:=by
 have h1:=la ha hd
 have h2:=la hb hd
 have h3:=la ha hb
 have h4:=la h3 hd
 unfold evenZ
 repeat' split
 all_goals first|assumption|rfl
def evC:Nat->Nat×Nat×Nat
 |0=>(0,0,0)|15=>(0,0,1)|12=>(1,0,0)|3=>(1,0,1)|10=>(0,1,0)|5=>(0,1,1)|6=>(1,1,0)|_=>(1,1,1)
theorem even_tab:∀f∈List.range 16,Hush.odd f=false->lookF v_EVEN (f:Int)=some [.int ((evC f).1:Int),.int ((evC f).2.1:Int),.int ((evC f).2.2:Int)]/\(evC f).1<=1/\(evC f).2.1<=1/\(evC f).2.2<=1:=by decide+kernel
theorem evenZ_num {a b d:Bytes} {f:Nat} (h:Hush.odd f=false) (hf:f < 16) (ha:a.length=16) (hb:b.length=16) (hd:d.length=16):
  ofBytes (evenZ a b d f)=((evC f).1*ofBytes a) ^^^ ((evC f).2.1*ofBytes b) ^^^ ((evC f).2.2*ofBytes d):=by
 have hm:f∈[0,15,12,3,10,5,6,9]:=(show ∀f∈List.range 16,Hush.odd f=false->f∈[0,15,12,3,10,5,6,9] by decide) f (List.mem_range.mpr hf) h
 simp only [List.mem_cons,List.not_mem_nil,or_false] at hm
 have e1:=HM.ofBytes_add a d (ha.trans hd.symm)
 have e2:=HM.ofBytes_add b d (hb.trans hd.symm)
 have e3:=HM.ofBytes_add a b (ha.trans hb.symm)
 have e4:=HM.ofBytes_add (Hush.add a b) d ((la ha hb).trans hd.symm)
 rcases hm with rfl|rfl|rfl|rfl|rfl|rfl|rfl|rfl <;> simp [evenZ,evC,HM.ofBytes_none16,e1,e2,e3,e4]
def ggf (t z:V):List (Str×V):=[("table",t),("zero",z)]
theorem ggf_put (t z:V):putF "zero" z (putF "table" t [])=ggf t z:=by
 show (if ("table":Str)="zero" then _ else _)=_
 rw [if_neg (by decide+kernel)]
 rfl
theorem ggf_table (t z:V):(ggf t z).lookup ("table":Str)=some t:=by rfl
theorem ggf_zero (t z:V):(ggf t z).lookup ("zero":Str)=some z:=by
 unfold ggf
 rw [List.lookup_cons,show (("zero":Str) == "table")=false by decide+kernel]
 rfl
def spGG (C:Addr):Sp:=fun vs H Q _=>∃(p dx:Addr) (t z:V),vs=[.ref p,t,z]/\H p=some (.ins C dx [])/\Q .non (upd H p (.ins C dx (ggf t z)))
theorem sc_GG:FnScope ["self","table","zero"] ["self","table","zero"] (defScope s_GarbledGate_init):=scB
theorem ok_GG (T:Txt K mg A):FnOk P w K mg base CX0 1 A.f_GarbledGate_init A.d_GarbledGate_init ["self","table","zero"] (spGG A.c_GarbledGate):=by
 refine T.GarbledGate_init.fn.okA sc_GG (fun _ _ _ _ H _ Q E hr h=>?_)
 obtain ⟨p,dx,t,z,rfl,hp,k⟩:=h
 refine ⟨_,pss_cons (ps_fld (pv 0) (pv 1) rfl) (pss_one (ps_fld (pv 0) (pv 2) rfl)),?_⟩
 refine ⟨_,rfl,_,rfl,p,_,dx,_,rfl,hp,T.c_GarbledGate.cl,T.c_GarbledGate.n,(by show 0 < 1000;decide),?_⟩
 refine ⟨_,rfl,_,rfl,p,_,dx,_,rfl,upd_same,T.c_GarbledGate.cl,T.c_GarbledGate.n,(by show 1 < 1000;decide),?_⟩
 rw [upd_upd,ggf_put]
 exact k
def GGNew (C:Addr) (H H':Hp) (p:Addr) (t z:Bytes):Prop:=∃dx l,H' p=some (.ins C dx (ggf (.ref l) (.int (ofBytes z:Nat))))/\H' l=some (.lst (bV t))/\H l=none
def spVal:Sp:=fun vs H Q _=>∃(f:Nat) (a b:Bool),vs=[.int (f:Int),.int (a.toNat:Int),.int (b.toNat:Int)]/\Q (.int ((Hush.val f a b).toNat:Int)) H
theorem sc_gate_value:FnScope ["f","a","b"] ["f","a","b"] (defScope s_gate_value):=scB
theorem ok_gate_value (T:Txt K mg A):FnOk P w K mg base CX0 1 A.f_gate_value A.d_gate_value ["f","a","b"] spVal:=by
 refine T.gate_value.fn.okA sc_gate_value (fun _ _ _ _ H _ Q E hr h=>?_)
 obtain ⟨f,a,b,rfl,k⟩:=h
 refine ⟨_,pss_one (ps_ret (pe_op op_and (pe_op op_shr (pv 0) (pe_op op_add (pe_op op_mul pe_int (pv 1)) (pv 2))) pe_int)),?_⟩
 refine ⟨_,rfl,_,rfl,_,_,rfl,rfl,.inl ⟨by decide,by decide⟩,_,rfl,_,_,rfl,rfl,_,_,rfl,rfl,by omega,_,_,rfl,rfl,?_⟩
 show Q (V.int (Builtin.bitAnd ((f:Int) / 2 ^ (2*(a.toNat:Int)+(b.toNat:Int)).toNat) 1)) H
 have e1:(2*(a.toNat:Int)+(b.toNat:Int)).toNat=2*a.toNat+b.toNat:=by omega
 have e2:((f:Int) / 2 ^ (2*a.toNat+b.toNat))=((f / 2 ^ (2*a.toNat+b.toNat):Nat):Int):=by simp
 rw [e1,e2,ba1]
 have e3:(Hush.val f a b).toNat=f / 2 ^ (2*a.toNat+b.toNat) % 2:=by
  unfold Hush.val
  rw [Nat.testBit_eq_decide_div_mod_eq]
  rcases Nat.mod_two_eq_zero_or_one (f / 2 ^ (2*a.toNat+b.toNat)) with h|h <;> rw [h] <;> rfl
 rw [<-e3]
 exact k
def spOdd:Sp:=fun vs H Q _=>∃f:Nat,vs=[.int (f:Int)]/\f < 16/\Q (.bl (Hush.odd f)) H
theorem sc_is_odd:FnScope ["f"] ["f"] (defScope s_is_odd):=scB
theorem ok_is_odd (T:Txt K mg A):FnOk P w K mg base CX0 1 A.f_is_odd A.d_is_odd ["f"] spOdd:=by
 refine T.is_odd.fn.okA sc_is_odd (fun _ _ _ _ H _ Q E hr h=>?_)
 obtain ⟨f,rfl,hf,k⟩:=h
 refine ⟨_,pss_one (ps_ret (pe_cmp (kinK K (pv 0) (pe_gref rfl T.t_ODD.mg_)) (by with_unfolding_all rfl))),?_⟩
 obtain ⟨kvs,dk,pr⟩:=T.t_ODD.dk
 refine ⟨_,rfl,_,kvs,_,rfl,dk,rfl,?_⟩
 have h1:=odd_tab f (List.mem_range.mpr hf)
 have h2:=lookF_of pr (f:Int)
 cases ho:Hush.odd f with
 |true=>
  rw [ho] at k
  obtain ⟨t,e,_⟩:=h2.2 _ (h1.1 ho)
  rw [e]
  exact k
 |false=>
  rw [ho] at k
  rw [h2.1 (h1.2 ho)]
  exact k
def spCol:Sp:=fun vs H Q _=>∃l:Bytes,vs=[.int (ofBytes l:Nat)]/\Q (.int ((Hush.colour l).toNat:Int)) H
theorem sc_colour:FnScope ["label"] ["label"] (defScope s_colour):=scB
theorem ok_colour (T:Txt K mg A):FnOk P w K mg base CX0 1 A.f_colour A.d_colour ["label"] spCol:=by
 refine T.colour.fn.okA sc_colour (fun _ _ _ _ H _ Q E hr h=>?_)
 obtain ⟨l,rfl,k⟩:=h
 refine ⟨_,pss_one (ps_ret (pe_op op_and (pv 0) pe_int)),?_⟩
 refine ⟨_,rfl,_,_,rfl,rfl,?_⟩
 show Q (V.int (Builtin.bitAnd ((ofBytes l:Nat):Int) 1)) H
 rw [ba1,<-HM.colour_eq]
 exact k
def spTwA:Sp:=fun vs H Q _=>∃g:Nat,vs=[.int (g:Int)]/\Q (.int (ofBytes (Hush.tweak (2*g)):Nat)) H
theorem sc_tweak_a:FnScope ["g"] ["g"] (defScope s_tweak_a):=scB
theorem ok_tweak_a (T:Txt K mg A):FnOk P w K mg base CX0 1 A.f_tweak_a A.d_tweak_a ["g"] spTwA:=by
 refine T.tweak_a.fn.okA sc_tweak_a (fun _ _ _ _ H _ Q E hr h=>?_)
 obtain ⟨g,rfl,k⟩:=h
 have iO:=T.i_TWEAKS
 obtain ⟨N,hN⟩:∃N:Int,N=18446744073709551616:=⟨_,rfl⟩
 rw [<-hN] at iO
 refine ⟨_,pss_one (ps_ret (pe_op op_mod (pe_op op_mul pe_int (pv 0)) (pe_gint rfl iO))),?_⟩
 refine ⟨_,rfl,_,_,rfl,rfl,.inl ⟨by decide,by decide⟩,_,_,rfl,rfl,by omega,?_⟩
 show Q (V.int (2*(g:Int) % N)) H
 rw [HM.ofBytes_tweak] at k
 have e:2*(g:Int) % N=((2*g % 2 ^ 64:Nat):Int):=by rw [hN];omega
 rw [e]
 exact k
def spTwB:Sp:=fun vs H Q _=>∃g:Nat,vs=[.int (g:Int)]/\Q (.int (ofBytes (Hush.tweak (2*g+1)):Nat)) H
theorem sc_tweak_b:FnScope ["g"] ["g"] (defScope s_tweak_b):=scB
theorem ok_tweak_b (T:Txt K mg A):FnOk P w K mg base CX0 1 A.f_tweak_b A.d_tweak_b ["g"] spTwB:=by
 refine T.tweak_b.fn.okA sc_tweak_b (fun _ _ _ _ H _ Q E hr h=>?_)
 obtain ⟨g,rfl,k⟩:=h
 have iO:=T.i_TWEAKS
 obtain ⟨N,hN⟩:∃N:Int,N=18446744073709551616:=⟨_,rfl⟩
 rw [<-hN] at iO
 refine ⟨_,pss_one (ps_ret (pe_op op_mod (pe_op op_add (pe_op op_mul pe_int (pv 0)) pe_int) (pe_gint rfl iO))),?_⟩
 refine ⟨_,rfl,_,_,rfl,rfl,.inl ⟨by decide,by decide⟩,_,_,rfl,rfl,_,_,rfl,rfl,by omega,?_⟩
 show Q (V.int ((2*(g:Int)+1) % N)) H
 rw [HM.ofBytes_tweak] at k
 have e:(2*(g:Int)+1) % N=(((2*g+1) % 2 ^ 64:Nat):Int):=by rw [hN];omega
 rw [e]
 exact k
def spEven:Sp:=fun vs H Q _=>∃(f:Nat) (a b d:Bytes),vs=[.int (f:Int),.int (ofBytes a:Nat),.int (ofBytes b:Nat),.int (ofBytes d:Nat)]/\f < 16/\Hush.odd f=false/\a.length=16/\b.length=16/\d.length=16/\
 Q (.int (ofBytes (evenZ a b d f):Nat)) H
theorem sc_even_label:FnScope ["f","a","b","d","taken"] ["f","a","b","d"] (defScope s_even_label):=scB
theorem ok_even_label (T:Txt K mg A):FnOk P w K mg base CX0 1 A.f_even_label A.d_even_label ["f","a","b","d"] spEven:=by
 refine T.even_label.fn.okA sc_even_label (fun _ _ _ _ H _ Q E hr h=>?_)
 obtain ⟨f,a,b,d,rfl,hf,ho,ha,hb,hd,k⟩:=h
 refine ⟨_,pss_cons (ps_set (i:=4) sc_even_label.nd rfl (Or.inl rfl) (kgetK K (pe_gref rfl T.t_EVEN.mg_) (pv 0) (fun _ _=>rfl)))
  (pss_one (ps_ret (pe_op op_xor (pe_op op_xor (pe_op op_mul (pe_ix (ixT K) (pv 4) pe_int (fun _ _=>rfl)) (pv 1)) (pe_op op_mul (pe_ix (ixT K) (pv 4) pe_int (fun _ _=>rfl)) (pv 2))) (pe_op op_mul (pe_ix (ixT K) (pv 4) pe_int (fun _ _=>rfl)) (pv 3))))),?_⟩
 obtain ⟨kvs,dk,pr⟩:=T.t_EVEN.dk
 obtain ⟨h1,l0,l1,l2⟩:=even_tab f (List.mem_range.mpr hf) ho
 obtain ⟨t,e,hs⟩:=(lookF_of pr (f:Int)).2 _ h1
 have e5:=evenZ_num ho hf ha hb hd
 generalize evC f=c at h1 l0 l1 l2 hs e5
 obtain ⟨c0,c1,c2⟩:=c
 dsimp only at h1 l0 l1 l2 hs e5
 refine ⟨_,rfl,_,kvs,_,_,rfl,dk,rfl,e,?_⟩
 refine ⟨_,rfl,t,_,_,_,rfl,rfl,hs _,rfl,_,rfl,_,_,rfl,rfl,.inl ⟨by omega,by omega⟩,_,rfl,t,_,_,_,rfl,rfl,hs _,rfl,_,rfl,_,_,rfl,rfl,.inl ⟨by omega,by omega⟩,_,_,rfl,rfl,
  _,rfl,t,_,_,_,rfl,rfl,hs _,rfl,_,rfl,_,_,rfl,rfl,.inl ⟨by omega,by omega⟩,_,_,rfl,rfl,?_⟩
 show Q (V.int (Builtin.bitXor (Builtin.bitXor ((c0:Int)*((ofBytes a:Nat):Int)) ((c1:Int)*((ofBytes b:Nat):Int))) ((c2:Int)*((ofBytes d:Nat):Int)))) H
 rw [<-Int.natCast_mul,<-Int.natCast_mul,<-Int.natCast_mul,bx,bx,<-e5]
 exact k
theorem Same.tn {H H1:Hp} {a:Addr} (s:Same H H1) (h:H1 a=none) (o:HO):Same H (upd H1 a o):=s.trans (Same.new h)
theorem lm {k x t:Bytes} (hk:k.length=16) (ht:t.length=16):(Hush.mix k x t).length=16:=HM.length_mix hk ht
theorem bmul (c:Bool) (d:Bytes):(c.toNat:Int)*((ofBytes d:Nat):Int)=((ofBytes (Hush.when_ c d):Nat):Int):=by
 rw [HM.ofBytes_when,Int.natCast_mul]
theorem bxb (a b:Bool):Builtin.bitXor (a.toNat:Int) (b.toNat:Int)=(((a != b).toNat:Nat):Int):=by
 rw [bx]
 cases a <;> cases b <;> rfl
theorem bab (a b:Bool):Builtin.bitAnd (a.toNat:Int) (b.toNat:Int)=(((a&&b).toNat:Nat):Int):=by cases a <;> cases b <;> rfl
theorem add_assoc {a b c:Bytes} (ha:a.length=16) (hb:b.length=16) (hc:c.length=16):Hush.add (Hush.add a b) c=Hush.add a (Hush.add b c):=by
 apply HM.ofBytes_inj
 ·rw [la (la ha hb) hc,la ha (la hb hc)]
 ·rw [HM.ofBytes_add _ _ ((la ha hb).trans hc.symm),HM.ofBytes_add _ _ (ha.trans hb.symm),HM.ofBytes_add _ _ (ha.trans (la hb hc).symm),HM.ofBytes_add _ _ (hb.trans hc.symm),Nat.xor_assoc]
theorem lw {c:Bool} {d:Bytes} (h:d.length=16):(Hush.when_ c d).length=16:=HM.length_when c h
def spBoth:Sp:=fun vs H Q _=>∃(s:Addr) (k a d t:Bytes),vs=[.ref s,.int (ofBytes a:Nat),.int (ofBytes d:Nat),.int (ofBytes t:Nat)]/\SchedAt H s k/\a.length=16/\d.length=16/\t.length=16/\
 ∀(H':Hp) (l:Addr),Same H H'->H l=none->H' l=some (.lst [.int (ofBytes (Hush.mix k a t):Nat),.int (ofBytes (Hush.mix k (Hush.add a d) t):Nat)])->Q (.ref l) H'
theorem sc_both_mixes:FnScope ["schedule","label","d","tweak"] ["schedule","label","d","tweak"] (defScope s_both_mixes):=scB
theorem ok_both_mixes (T:Txt K mg A):FnOk P w K mg base CX0 5 A.f_both_mixes A.d_both_mixes ["schedule","label","d","tweak"] spBoth:=by
 refine T.both_mixes.fn.okA sc_both_mixes (fun _ _ _ _ H _ Q E hr h=>?_)
 obtain ⟨s,ky,a,d,t,rfl,hs,ha,hd,ht,k⟩:=h
 refine ⟨_,pss_one (ps_ret (pe_lst (pa_cons (pe_call (ok_mix T) hr rfl T.mix.mg_ T.mix.fn.kp T.mix.bi .nil pass0 (pa_cons (pv 0) (pa_cons (pv 1) (pa_cons (pv 3) pa_nil))))
  (pa_cons (pe_call (ok_mix T) hr rfl T.mix.mg_ T.mix.fn.kp T.mix.bi .nil pass0 (pa_cons (pv 0) (pa_cons (pe_op op_xor (pv 1) (pv 2)) (pa_cons (pv 3) pa_nil)))) pa_nil)))),?_⟩
 refine ⟨_,rfl,_,rfl,_,rfl,s,ky,a,t,rfl,hs,ha,ht,fun H1 s1=>?_⟩
 refine ⟨_,rfl,_,rfl,_,rfl,_,_,rfl,rfl,_,rfl,s,ky,Hush.add a d,t,?_,hs.same s1,la ha hd,ht,fun H2 s2=>?_⟩
 ·show [V.ref s,V.int (Builtin.bitXor _ _),_]=_
  rw [xb ha hd]
 ·exact ⟨by show 2<=sizeLine;decide,fun l hl=>k _ l ((s1.trans s2).trans (Same.new hl)) ((s1.trans s2).free hl) upd_same⟩
def spGarb (A:Ad):Sp:=fun vs H Q _=>∃(s:Addr) (k a b d:Bytes) (f g:Nat),vs=[.ref s,.int (f:Int),.int (g:Int),.int (ofBytes a:Nat),.int (ofBytes b:Nat),.int (ofBytes d:Nat)]/\SchedAt H s k/\f < 16/\a.length=16/\b.length=16/\d.length=16/\
 ∀(H':Hp) (p:Addr),Same H H'->H p=none->GGNew A.c_GarbledGate H H' p (Hush.table a b d k f g) (Hush.zero a b d k f g)->Q (.ref p) H'
def spGarbO (A:Ad):Sp:=fun vs H Q E=>∃(s:Addr) (k a b d:Bytes) (f g:Nat),vs=[.ref s,.int (f:Int),.int (g:Int),.int (ofBytes a:Nat),.int (ofBytes b:Nat),.int (ofBytes d:Nat)]/\Hush.odd f=true/\SchedAt H s k/\f < 16/\a.length=16/\b.length=16/\d.length=16/\
 ∀(H':Hp) (p:Addr),Same H H'->H p=none->GGNew A.c_GarbledGate H H' p (Hush.table a b d k f g) (Hush.zero a b d k f g)->Q (.ref p) H'
theorem sc_garbled_odd:FnScope ["schedule","f","g","a","b","d","x","y","z","p","q","mixes_a","mixes_b","first","second","hidden","zero"] ["schedule","f","g","a","b","d"] (defScope s_garbled_odd):=scB
theorem mixes_at {k a d t:Bytes} (c:Bool) (ha:a.length=16):atI [V.int (ofBytes (Hush.mix k a t):Nat),V.int (ofBytes (Hush.mix k (Hush.add a d) t):Nat)] (c.toNat:Int)=some (.int (ofBytes (Hush.mix k (Hush.add a (Hush.when_ c d)) t):Nat)):=by
 cases c
 ·show some _=some _
  rw [show Hush.when_ false d=Hush.none16 from rfl,add_none ha]
 ·rfl
theorem ok_garbled_odd (T:Txt K mg A):FnOk P w K mg base CX0 6 A.f_garbled_odd A.d_garbled_odd ["schedule","f","g","a","b","d"] (spGarbO A):=by
 refine T.garbled_odd.fn.okA sc_garbled_odd (fun _ _ _ _ H _ Q E hr h=>?_)
 obtain ⟨s,ky,a,b,d,f,g,rfl,ho,hs,hf,ha,hb,hd,k⟩:=h
 have hr1:Room 1 _:=hr.mono (by decide)
 refine ⟨_,pss_cons (ps_asg (pe_ix (ixT K) (kgetK K (pe_gref rfl T.t_ODD.mg_) (pv 1) (fun _ _=>rfl)) pe_int (fun _ _=>rfl)) (pgN (i:=6) sc_garbled_odd.nd rfl (Or.inl rfl)))
  (pss_cons (ps_asg (pe_ix (ixT K) (kgetK K (pe_gref rfl T.t_ODD.mg_) (pv 1) (fun _ _=>rfl)) pe_int (fun _ _=>rfl)) (pgN (i:=7) sc_garbled_odd.nd rfl (Or.inl rfl)))
  (pss_cons (ps_asg (pe_ix (ixT K) (kgetK K (pe_gref rfl T.t_ODD.mg_) (pv 1) (fun _ _=>rfl)) pe_int (fun _ _=>rfl)) (pgN (i:=8) sc_garbled_odd.nd rfl (Or.inl rfl)))
  (pss_cons (ps_asg (pe_call (ok_colour T) hr1 rfl T.colour.mg_ T.colour.fn.kp T.colour.bi .nil pass0 (pa_cons (pv 3) pa_nil)) (pgN (i:=9) sc_garbled_odd.nd rfl (Or.inl rfl)))
  (pss_cons (ps_asg (pe_call (ok_colour T) hr1 rfl T.colour.mg_ T.colour.fn.kp T.colour.bi .nil pass0 (pa_cons (pv 4) pa_nil)) (pgN (i:=10) sc_garbled_odd.nd rfl (Or.inl rfl)))
  (pss_cons (ps_asg (pe_call (ok_both_mixes T) hr rfl T.both_mixes.mg_ T.both_mixes.fn.kp T.both_mixes.bi .nil pass0 (pa_cons (pv 0) (pa_cons (pv 3) (pa_cons (pv 5) (pa_cons (pe_call (ok_tweak_a T) hr1 rfl T.tweak_a.mg_ T.tweak_a.fn.kp T.tweak_a.bi .nil pass0 (pa_cons (pv 2) pa_nil)) pa_nil))))) (pgN (i:=11) sc_garbled_odd.nd rfl (Or.inl rfl)))
  (pss_cons (ps_asg (pe_call (ok_both_mixes T) hr rfl T.both_mixes.mg_ T.both_mixes.fn.kp T.both_mixes.bi .nil pass0 (pa_cons (pv 0) (pa_cons (pv 4) (pa_cons (pv 5) (pa_cons (pe_call (ok_tweak_b T) hr1 rfl T.tweak_b.mg_ T.tweak_b.fn.kp T.tweak_b.bi .nil pass0 (pa_cons (pv 2) pa_nil)) pa_nil))))) (pgN (i:=12) sc_garbled_odd.nd rfl (Or.inl rfl)))
  (pss_cons (ps_asg (pe_op op_xor (pe_op op_xor (pe_ix (ixL K) (pv 11) pe_int (fun _ _=>rfl)) (pe_ix (ixL K) (pv 11) pe_int (fun _ _=>rfl))) (pe_op op_mul (pe_op op_xor (pv 10) (pv 7)) (pv 5))) (pgN (i:=13) sc_garbled_odd.nd rfl (Or.inl rfl)))
  (pss_cons (ps_asg (pe_op op_xor (pe_op op_xor (pe_op op_xor (pe_ix (ixL K) (pv 12) pe_int (fun _ _=>rfl)) (pe_ix (ixL K) (pv 12) pe_int (fun _ _=>rfl))) (pv 3)) (pe_op op_mul (pv 6) (pv 5))) (pgN (i:=14) sc_garbled_odd.nd rfl (Or.inl rfl)))
  (pss_cons (ps_asg (pe_op op_xor (pv 8) (pe_op op_and (pe_op op_xor (pv 9) (pv 6)) (pe_op op_xor (pv 10) (pv 7)))) (pgN (i:=15) sc_garbled_odd.nd rfl (Or.inl rfl)))
  (pss_cons (ps_asg (pe_op op_xor (pe_op op_xor (pe_ix (ixL K) (pv 11) (pv 9) (fun _ _=>rfl)) (pe_ix (ixL K) (pv 12) (pv 10) (fun _ _=>rfl))) (pe_op op_mul (pv 15) (pv 5))) (pgN (i:=16) sc_garbled_odd.nd rfl (Or.inl rfl)))
  (pss_one (ps_ret (pe_make T.c_GarbledGate.mk_ (ok_GG T) (rm hr) rfl T.c_GarbledGate.mg_ T.GarbledGate_init.bi .nil pass0 (pa_cons (pe_op op_cat (pe_call (ok_row_of T) hr1 rfl T.row_of.mg_ T.row_of.fn.kp T.row_of.bi .nil pass0 (pa_cons (pv 13) pa_nil))
   (pe_call (ok_row_of T) hr1 rfl T.row_of.mg_ T.row_of.fn.kp T.row_of.bi .nil pass0 (pa_cons (pv 14) pa_nil))) (pa_cons (pv 16) pa_nil))))))))))))))),?_⟩
 obtain ⟨kvs,dk,pr⟩:=T.t_ODD.dk
 obtain ⟨t,e,hq⟩:=(lookF_of pr (f:Int)).2 _ ((odd_tab f (List.mem_range.mpr hf)).1 ho)
 have hk:=hs.len
 have t1:=HM.length_tweak (2*g)
 have t2:=HM.length_tweak (2*g+1)
 have m1:=lm (x:=a) hk t1
 have m2:=lm (x:=Hush.add a d) hk t1
 have m3:=lm (x:=b) hk t2
 have m4:=lm (x:=Hush.add b d) hk t2
 refine ⟨_,rfl,_,kvs,_,_,rfl,dk,rfl,e,t,_,_,_,rfl,rfl,hq _,rfl,fun σ' es=>?_⟩
 obtain rfl:σ'=[some (.ref s),some (.int (f:Int)),some (.int (g:Int)),some (.int (ofBytes a:Nat)),some (.int (ofBytes b:Nat)),some (.int (ofBytes d:Nat)),some (.int ((Hush.turnA f).toNat:Int)),none,none,none,none,none,none,none,none,none,none]:=es
 refine ⟨_,rfl,_,kvs,_,_,rfl,dk,rfl,e,t,_,_,_,rfl,rfl,hq _,rfl,fun σ' es=>?_⟩
 obtain rfl:σ'=[some (.ref s),some (.int (f:Int)),some (.int (g:Int)),some (.int (ofBytes a:Nat)),some (.int (ofBytes b:Nat)),some (.int (ofBytes d:Nat)),some (.int ((Hush.turnA f).toNat:Int)),some (.int ((Hush.turnB f).toNat:Int)),none,none,none,none,none,none,none,none,none]:=es
 refine ⟨_,rfl,_,kvs,_,_,rfl,dk,rfl,e,t,_,_,_,rfl,rfl,hq _,rfl,fun σ' es=>?_⟩
 obtain rfl:σ'=[some (.ref s),some (.int (f:Int)),some (.int (g:Int)),some (.int (ofBytes a:Nat)),some (.int (ofBytes b:Nat)),some (.int (ofBytes d:Nat)),some (.int ((Hush.turnA f).toNat:Int)),some (.int ((Hush.turnB f).toNat:Int)),some (.int ((Hush.rest f).toNat:Int)),none,none,none,none,none,none,none,none]:=es
 refine ⟨_,rfl,a,rfl,fun σ' es=>?_⟩
 obtain rfl:σ'=[some (.ref s),some (.int (f:Int)),some (.int (g:Int)),some (.int (ofBytes a:Nat)),some (.int (ofBytes b:Nat)),some (.int (ofBytes d:Nat)),some (.int ((Hush.turnA f).toNat:Int)),some (.int ((Hush.turnB f).toNat:Int)),some (.int ((Hush.rest f).toNat:Int)),some (.int ((Hush.colour a).toNat:Int)),none,none,none,none,none,none,none]:=es
 refine ⟨_,rfl,b,rfl,fun σ' es=>?_⟩
 obtain rfl:σ'=[some (.ref s),some (.int (f:Int)),some (.int (g:Int)),some (.int (ofBytes a:Nat)),some (.int (ofBytes b:Nat)),some (.int (ofBytes d:Nat)),some (.int ((Hush.turnA f).toNat:Int)),some (.int ((Hush.turnB f).toNat:Int)),some (.int ((Hush.rest f).toNat:Int)),some (.int ((Hush.colour a).toNat:Int)),some (.int ((Hush.colour b).toNat:Int)),none,none,none,none,none,none]:=es
 refine ⟨_,rfl,_,rfl,_,rfl,_,rfl,g,rfl,s,ky,a,d,_,rfl,hs,ha,hd,t1,fun H1 la1 s1 hl1 h1=>fun σ' es=>?_⟩
 obtain rfl:σ'=[some (.ref s),some (.int (f:Int)),some (.int (g:Int)),some (.int (ofBytes a:Nat)),some (.int (ofBytes b:Nat)),some (.int (ofBytes d:Nat)),some (.int ((Hush.turnA f).toNat:Int)),some (.int ((Hush.turnB f).toNat:Int)),some (.int ((Hush.rest f).toNat:Int)),some (.int ((Hush.colour a).toNat:Int)),some (.int ((Hush.colour b).toNat:Int)),some (.ref la1),none,none,none,none,none]:=es
 refine ⟨_,rfl,_,rfl,_,rfl,_,rfl,g,rfl,s,ky,b,d,_,rfl,hs.same s1,hb,hd,t2,fun H2 la2 s2 hl2 h2=>fun σ' es=>?_⟩
 obtain rfl:σ'=[some (.ref s),some (.int (f:Int)),some (.int (g:Int)),some (.int (ofBytes a:Nat)),some (.int (ofBytes b:Nat)),some (.int (ofBytes d:Nat)),some (.int ((Hush.turnA f).toNat:Int)),some (.int ((Hush.turnB f).toNat:Int)),some (.int ((Hush.rest f).toNat:Int)),some (.int ((Hush.colour a).toNat:Int)),some (.int ((Hush.colour b).toNat:Int)),some (.ref la1),some (.ref la2),none,none,none,none]:=es
 have h1':=s2 _ _ h1
 have bnd:∀c:Bool,CMul (c.toNat:Int) (ofBytes d:Nat):=fun c=>.inl ⟨by cases c <;> decide,by cases c <;> decide⟩
 refine ⟨_,rfl,la1,_,_,_,rfl,rfl,SqL.of h1',rfl,_,rfl,la1,_,_,_,rfl,rfl,SqL.of h1',rfl,_,_,rfl,rfl,_,rfl,_,rfl,_,_,rfl,rfl,_,rfl,_,_,rfl,rfl,by rw [bxb];exact bnd _,_,_,rfl,rfl,fun σ' es=>?_⟩
 dsimp only at es
 rw [bxb,bmul,xb m1 m2,xb (la m1 m2) (lw hd)] at es
 obtain rfl:σ'=[some (.ref s),some (.int (f:Int)),some (.int (g:Int)),some (.int (ofBytes a:Nat)),some (.int (ofBytes b:Nat)),some (.int (ofBytes d:Nat)),some (.int ((Hush.turnA f).toNat:Int)),some (.int ((Hush.turnB f).toNat:Int)),some (.int ((Hush.rest f).toNat:Int)),some (.int ((Hush.colour a).toNat:Int)),some (.int ((Hush.colour b).toNat:Int)),some (.ref la1),some (.ref la2),some (.int (ofBytes (Hush.add (Hush.add (Hush.mix ky a (Hush.tweak (2*g))) (Hush.mix ky (Hush.add a d) (Hush.tweak (2*g)))) (Hush.when_ (Hush.colour b != Hush.turnB f) d)):Nat)),none,none,none]:=es
 refine ⟨_,rfl,la2,_,_,_,rfl,rfl,SqL.of h2,rfl,_,rfl,la2,_,_,_,rfl,rfl,SqL.of h2,rfl,_,_,rfl,rfl,_,rfl,_,_,rfl,rfl,_,rfl,_,rfl,_,_,rfl,rfl,bnd _,_,_,rfl,rfl,fun σ' es=>?_⟩
 dsimp only at es
 rw [bmul,xb m3 m4,xb (la m3 m4) ha,xb (la (la m3 m4) ha) (lw hd)] at es
 obtain rfl:σ'=[some (.ref s),some (.int (f:Int)),some (.int (g:Int)),some (.int (ofBytes a:Nat)),some (.int (ofBytes b:Nat)),some (.int (ofBytes d:Nat)),some (.int ((Hush.turnA f).toNat:Int)),some (.int ((Hush.turnB f).toNat:Int)),some (.int ((Hush.rest f).toNat:Int)),some (.int ((Hush.colour a).toNat:Int)),some (.int ((Hush.colour b).toNat:Int)),some (.ref la1),some (.ref la2),some (.int (ofBytes (Hush.add (Hush.add (Hush.mix ky a (Hush.tweak (2*g))) (Hush.mix ky (Hush.add a d) (Hush.tweak (2*g)))) (Hush.when_ (Hush.colour b != Hush.turnB f) d)):Nat)),some (.int (ofBytes (Hush.add (Hush.add (Hush.add (Hush.mix ky b (Hush.tweak (2*g+1))) (Hush.mix ky (Hush.add b d) (Hush.tweak (2*g+1)))) a) (Hush.when_ (Hush.turnA f) d)):Nat)),none,none]:=es
 refine ⟨_,rfl,_,rfl,_,rfl,_,_,rfl,rfl,_,rfl,_,rfl,_,_,rfl,rfl,_,_,rfl,rfl,_,_,rfl,rfl,fun σ' es=>?_⟩
 dsimp only at es
 rw [bxb,bxb,bab,bxb] at es
 obtain rfl:σ'=[some (.ref s),some (.int (f:Int)),some (.int (g:Int)),some (.int (ofBytes a:Nat)),some (.int (ofBytes b:Nat)),some (.int (ofBytes d:Nat)),some (.int ((Hush.turnA f).toNat:Int)),some (.int ((Hush.turnB f).toNat:Int)),some (.int ((Hush.rest f).toNat:Int)),some (.int ((Hush.colour a).toNat:Int)),some (.int ((Hush.colour b).toNat:Int)),some (.ref la1),some (.ref la2),some (.int (ofBytes (Hush.add (Hush.add (Hush.mix ky a (Hush.tweak (2*g))) (Hush.mix ky (Hush.add a d) (Hush.tweak (2*g)))) (Hush.when_ (Hush.colour b != Hush.turnB f) d)):Nat)),some (.int (ofBytes (Hush.add (Hush.add (Hush.add (Hush.mix ky b (Hush.tweak (2*g+1))) (Hush.mix ky (Hush.add b d) (Hush.tweak (2*g+1)))) a) (Hush.when_ (Hush.turnA f) d)):Nat)),some (.int ((Hush.rest f != ((Hush.colour a != Hush.turnA f)&&(Hush.colour b != Hush.turnB f))).toNat:Int)),none]:=es
 refine ⟨_,rfl,_,rfl,la1,_,_,_,rfl,rfl,SqL.of h1',mixes_at _ ha,_,rfl,_,rfl,la2,_,_,_,rfl,rfl,SqL.of h2,mixes_at _ hb,_,_,rfl,rfl,_,rfl,_,rfl,_,_,rfl,rfl,bnd _,_,_,rfl,rfl,fun σ' es=>?_⟩
 dsimp only at es
 rw [bmul,xb (lm hk t1) (lm hk t2),xb (la (lm hk t1) (lm hk t2)) (lw hd)] at es
 obtain rfl:σ'=[some (.ref s),some (.int (f:Int)),some (.int (g:Int)),some (.int (ofBytes a:Nat)),some (.int (ofBytes b:Nat)),some (.int (ofBytes d:Nat)),some (.int ((Hush.turnA f).toNat:Int)),some (.int ((Hush.turnB f).toNat:Int)),some (.int ((Hush.rest f).toNat:Int)),some (.int ((Hush.colour a).toNat:Int)),some (.int ((Hush.colour b).toNat:Int)),some (.ref la1),some (.ref la2),some (.int (ofBytes (Hush.add (Hush.add (Hush.mix ky a (Hush.tweak (2*g))) (Hush.mix ky (Hush.add a d) (Hush.tweak (2*g)))) (Hush.when_ (Hush.colour b != Hush.turnB f) d)):Nat)),some (.int (ofBytes (Hush.add (Hush.add (Hush.add (Hush.mix ky b (Hush.tweak (2*g+1))) (Hush.mix ky (Hush.add b d) (Hush.tweak (2*g+1)))) a) (Hush.when_ (Hush.turnA f) d)):Nat)),some (.int ((Hush.rest f != ((Hush.colour a != Hush.turnA f)&&(Hush.colour b != Hush.turnB f))).toNat:Int)),some (.int (ofBytes (Hush.add (Hush.add (Hush.mix ky (Hush.add a (Hush.when_ (Hush.colour a) d)) (Hush.tweak (2*g))) (Hush.mix ky (Hush.add b (Hush.when_ (Hush.colour b) d)) (Hush.tweak (2*g+1)))) (Hush.when_ (Hush.rest f != ((Hush.colour a != Hush.turnA f)&&(Hush.colour b != Hush.turnB f))) d)):Nat))]:=es
 refine ⟨_,rfl,_,rfl,fun r1 hr1'=>⟨_,rfl,_,rfl,fun r2 hr2'=>?_⟩⟩
 have hr12:r1≠r2:=fun z=>by rw [z] at hr2';rw [upd_same] at hr2';cases hr2'
 refine ⟨r1,r2,_,_,rfl,rfl,by rw [upd_ne hr12];exact upd_same,upd_same,?_,fun l hl=>?_⟩
 ·rw [bV_length,bV_length,HM.length_toBytes,HM.length_toBytes]
  decide
 ·refine ⟨_,rfl,fun x dx nx nd ne=>?_⟩
  refine ⟨x,dx,_,_,rfl,upd_same,rfl,?_⟩
  have nx0:=(Same.tn (Same.tn (Same.tn (s1.trans s2) hr1' _) hr2' _) hl _).free nx
  have nd0:=(Same.tn (Same.tn (Same.tn (s1.trans s2) hr1' _) hr2' _) hl _).free nd
  refine k _ x (Same.young (Same.young (Same.young (Same.tn (Same.tn (Same.tn (s1.trans s2) hr1' _) hr2' _) hl _) nd0) nx0) nx0) nx0 ⟨dx,l,?_,?_,(Same.tn (Same.tn (s1.trans s2) hr1' _) hr2' _).free hl⟩
  ·rw [upd_same]
   refine congrArg (fun z=>some (HO.ins _ dx (ggf _ (.int z)))) ?_
   refine congrArg (fun z=>((ofBytes z:Nat):Int)) ?_
   unfold Hush.zero
   rw [if_pos ho]
  ·have hlx:l≠x:=fun z=>by rw [z] at nx;rw [upd_same] at nx;cases nx
   have hld:l≠dx:=fun z=>by rw [z] at nd;rw [upd_same] at nd;cases nd
   rw [upd_ne hlx,upd_ne hlx,upd_ne hld,upd_same,<-bV_append,HM.toBytes16 (la (la m1 m2) (lw hd)),HM.toBytes16 (la (la (la m3 m4) ha) (lw hd))]
   unfold Hush.table
   rw [if_pos ho,add_assoc (la m3 m4) ha (lw hd)]
theorem sc_garbled_gate:FnScope ["schedule","f","g","a","b","d"] ["schedule","f","g","a","b","d"] (defScope s_garbled_gate):=scB
theorem ok_garbled_gate (T:Txt K mg A):FnOk P w K mg base CX0 7 A.f_garbled_gate A.d_garbled_gate ["schedule","f","g","a","b","d"] (spGarb A):=by
 refine T.garbled_gate.fn.okA sc_garbled_gate (fun _ _ _ _ H _ Q E hr h=>?_)
 obtain ⟨s,ky,a,b,d,f,g,rfl,hs,hf,ha,hb,hd,k⟩:=h
 have hr1:Room 1 _:=hr.mono (by decide)
 refine ⟨_,pss_cons (ps_if (pt_truth (pe_call (ok_is_odd T) hr1 rfl T.is_odd.mg_ T.is_odd.fn.kp T.is_odd.bi .nil pass0 (pa_cons (pv 1) pa_nil)) (fun _=>rfl))
   (pss_one (ps_ret (pe_call (ok_garbled_odd T) hr rfl T.garbled_odd.mg_ T.garbled_odd.fn.kp T.garbled_odd.bi .nil pass0 (pa_cons (pv 0) (pa_cons (pv 1) (pa_cons (pv 2) (pa_cons (pv 3) (pa_cons (pv 4) (pa_cons (pv 5) pa_nil))))))))) pss_nil)
  (pss_one (ps_ret (pe_make T.c_GarbledGate.mk_ (ok_GG T) (rm hr) rfl T.c_GarbledGate.mg_ T.GarbledGate_init.bi .nil pass0 (pa_cons (pe_op op_cat (pe_call (ok_row_of T) hr1 rfl T.row_of.mg_ T.row_of.fn.kp T.row_of.bi .nil pass0 (pa_cons pe_int pa_nil))
   (pe_call (ok_row_of T) hr1 rfl T.row_of.mg_ T.row_of.fn.kp T.row_of.bi .nil pass0 (pa_cons pe_int pa_nil))) (pa_cons (pe_call (ok_even_label T) hr1 rfl T.even_label.mg_ T.even_label.fn.kp T.even_label.bi .nil pass0 (pa_cons (pv 1) (pa_cons (pv 3) (pa_cons (pv 4) (pa_cons (pv 5) pa_nil))))) pa_nil))))),?_⟩
 refine ⟨_,rfl,f,rfl,hf,_,rfl,iteB (fun ho=>?_) fun ho=>?_⟩
 ·exact ⟨_,rfl,_,rfl,_,rfl,_,rfl,_,rfl,_,rfl,s,ky,a,b,d,f,g,rfl,ho,hs,hf,ha,hb,hd,k⟩
 ·refine ⟨0,rfl,fun r1 hr1'=>⟨0,rfl,fun r2 hr2'=>?_⟩⟩
  have hr12:r1≠r2:=fun z=>by rw [z] at hr2';rw [upd_same] at hr2';cases hr2'
  refine ⟨r1,r2,_,_,rfl,rfl,by rw [upd_ne hr12];exact upd_same,upd_same,?_,fun l hl=>?_⟩
  ·rw [bV_length,HM.length_toBytes]
   decide
  ·refine ⟨_,rfl,_,rfl,_,rfl,_,rfl,f,a,b,d,rfl,hf,ho,ha,hb,hd,fun x dx nx nd ne=>?_⟩
   refine ⟨x,dx,_,_,rfl,upd_same,rfl,?_⟩
   have nx0:=(Same.tn (Same.tn (Same.tn (Same.refl H) hr1' _) hr2' _) hl _).free nx
   have nd0:=(Same.tn (Same.tn (Same.tn (Same.refl H) hr1' _) hr2' _) hl _).free nd
   refine k _ x (Same.young (Same.young (Same.young (Same.tn (Same.tn (Same.tn (Same.refl H) hr1' _) hr2' _) hl _) nd0) nx0) nx0) nx0 ⟨dx,l,?_,?_,(Same.tn (Same.tn (Same.refl H) hr1' _) hr2' _).free hl⟩
   ·rw [upd_same,zero_even ho]
   ·have hlx:l≠x:=fun z=>by rw [z] at nx;rw [upd_same] at nx;cases nx
    have hld:l≠dx:=fun z=>by rw [z] at nd;rw [upd_same] at nd;cases nd
    rw [upd_ne hlx,upd_ne hlx,upd_ne hld,upd_same,<-bV_append,HM.toBytes_zero]
    unfold Hush.table
    rw [if_neg (by rw [ho];decide)]
theorem dec1 {c:Bool}:decide (V.int (c.toNat:Int)=V.int 1)=c:=by cases c <;> rfl
theorem bV_cut16 {t:Bytes} (h:t.length=32):cutV (bV t) none (some 16)=bV (t.take 16):=by
 unfold cutV
 rw [bV_length,h,bV_take]
 rfl
theorem bV_drop (a:Bytes) (i:Nat):bV (a.drop i)=(bV a).drop i:=List.map_drop ..
theorem bV_cut32 {t:Bytes} (h:t.length=32):cutV (bV t) (some 16) none=bV (t.drop 16):=by
 unfold cutV
 rw [bV_length,h,bV_drop]
 show ((bV t).drop 16).take 16=_
 rw [List.take_of_length_le (by rw [List.length_drop,bV_length,h];decide)]
def spTaken (K:W.Frag):Sp:=fun vs H Q _=>∃(s l:Addr) (k a b t:Bytes) (f g:Nat),vs=[.ref s,.int (f:Int),.int (g:Int),.int (ofBytes a:Nat),.int (ofBytes b:Nat),.ref l]/\SchedAt H s k/\f < 16/\a.length=16/\b.length=16/\SqL K H l (bV t)/\t.length=32/\
 ∀H':Hp,Same H H'->Q (.int (ofBytes (Hush.one a b t k f g):Nat)) H'
theorem sc_taken_label:FnScope ["schedule","f","g","a","b","table","label"] ["schedule","f","g","a","b","table"] (defScope s_taken_label):=scB
theorem ok_taken_label (T:Txt K mg A):FnOk P w K mg base CX0 6 A.f_taken_label A.d_taken_label ["schedule","f","g","a","b","table"] (spTaken K):=by
 refine T.taken_label.fn.okA sc_taken_label (fun _ _ _ _ H _ Q E hr h=>?_)
 obtain ⟨s,l,ky,a,b,t,f,g,rfl,hs,hf,ha,hb,hl,ht,k⟩:=h
 have hr1:Room 1 _:=hr.mono (by decide)
 have hr4:Room 4 _:=hr.mono (by decide)
 refine ⟨_,pss_cons (ps_if (pt_not (pt_truth (pe_call (ok_is_odd T) hr1 rfl T.is_odd.mg_ T.is_odd.fn.kp T.is_odd.bi .nil pass0 (pa_cons (pv 1) pa_nil)) (fun _=>rfl)))
   (pss_one (ps_ret (pe_call (ok_even_label T) hr1 rfl T.even_label.mg_ T.even_label.fn.kp T.even_label.bi .nil pass0 (pa_cons (pv 1) (pa_cons (pv 3) (pa_cons (pv 4) (pa_cons pe_int pa_nil))))))) pss_nil)
  (pss_cons (ps_asg (pe_op op_xor (pe_call (ok_mix T) hr4 rfl T.mix.mg_ T.mix.fn.kp T.mix.bi .nil pass0 (pa_cons (pv 0) (pa_cons (pv 3) (pa_cons (pe_call (ok_tweak_a T) hr1 rfl T.tweak_a.mg_ T.tweak_a.fn.kp T.tweak_a.bi .nil pass0 (pa_cons (pv 2) pa_nil)) pa_nil))))
    (pe_call (ok_mix T) hr4 rfl T.mix.mg_ T.mix.fn.kp T.mix.bi .nil pass0 (pa_cons (pv 0) (pa_cons (pv 4) (pa_cons (pe_call (ok_tweak_b T) hr1 rfl T.tweak_b.mg_ T.tweak_b.fn.kp T.tweak_b.bi .nil pass0 (pa_cons (pv 2) pa_nil)) pa_nil))))) (pgN (i:=6) sc_taken_label.nd rfl (Or.inl rfl)))
  (pss_cons (ps_if (pt_cmpR op_eq (pe_call (ok_colour T) hr1 rfl T.colour.mg_ T.colour.fn.kp T.colour.bi .nil pass0 (pa_cons (pv 3) pa_nil)) pe_int (nomark _))
   (pss_one (ps_asg (pe_op op_xor (pv 6) (pe_call (ok_number_of T) hr1 rfl T.number_of.mg_ T.number_of.fn.kp T.number_of.bi .nil pass0 (pa_cons (pe_slice (slL K) (pv 5) po_none (po_some pe_int)) pa_nil))) (pgN (i:=6) sc_taken_label.nd rfl (Or.inl rfl)))) pss_nil)
  (pss_cons (ps_if (pt_cmpR op_eq (pe_call (ok_colour T) hr1 rfl T.colour.mg_ T.colour.fn.kp T.colour.bi .nil pass0 (pa_cons (pv 4) pa_nil)) pe_int (nomark _))
   (pss_one (ps_asg (pe_op op_xor (pe_op op_xor (pv 6) (pe_call (ok_number_of T) hr1 rfl T.number_of.mg_ T.number_of.fn.kp T.number_of.bi .nil pass0 (pa_cons (pe_slice (slL K) (pv 5) (po_some pe_int) po_none) pa_nil))) (pv 3)) (pgN (i:=6) sc_taken_label.nd rfl (Or.inl rfl)))) pss_nil)
  (pss_one (ps_ret (pv 6)))))),?_⟩
 have hk:=hs.len
 have t1:=HM.length_tweak (2*g)
 have t2:=HM.length_tweak (2*g+1)
 have m1:=lm (x:=a) hk t1
 have m2:=lm (x:=b) hk t2
 have hA:(t.take 16).length=16:=by rw [List.length_take,ht];rfl
 have hB:(t.drop 16).length=16:=by rw [List.length_drop,ht]
 refine ⟨_,rfl,f,rfl,hf,_,rfl,?_⟩
 cases ho:Hush.odd f with
 |false=>
  rw [one_even ho hf ha hb] at k
  have z:((0:Int))=((ofBytes Hush.none16:Nat):Int):=by rw [HM.ofBytes_none16];rfl
  refine ⟨_,rfl,_,rfl,_,rfl,f,a,b,Hush.none16,?_,hf,ho,ha,hb,HM.length_none16,k H (Same.refl H)⟩
  show [_,_,_,V.int 0]=_
  rw [z]
 |true=>
  have hone:Hush.one a b t ky f g=Hush.add (Hush.add (Hush.mix ky a (Hush.tweak (2*g))) (Hush.mix ky b (Hush.tweak (2*g+1)))) (Hush.add (Hush.when_ (Hush.colour a) (t.take 16)) (Hush.when_ (Hush.colour b) (Hush.add (t.drop 16) a))):=by
   unfold Hush.one
   rw [if_pos ho]
  rw [hone] at k
  refine ⟨_,rfl,_,rfl,_,rfl,g,rfl,s,ky,a,_,rfl,hs,ha,t1,fun H1 s1=>⟨_,rfl,_,rfl,_,rfl,g,rfl,s,ky,b,_,rfl,hs.same s1,hb,t2,fun H2 s2=>⟨_,_,rfl,rfl,fun σ' es=>?_⟩⟩⟩
  dsimp only at es
  rw [xb m1 m2] at es
  obtain rfl:σ'=[some (.ref s),some (.int (f:Int)),some (.int (g:Int)),some (.int (ofBytes a:Nat)),some (.int (ofBytes b:Nat)),some (.ref l),some (.int (ofBytes (Hush.add (Hush.mix ky a (Hush.tweak (2*g))) (Hush.mix ky b (Hush.tweak (2*g+1)))):Nat))]:=es
  generalize hM:Hush.add (Hush.mix ky a (Hush.tweak (2*g))) (Hush.mix ky b (Hush.tweak (2*g+1)))=M at k ⊢
  have hMl:M.length=16:=by rw [<-hM];exact la m1 m2
  have s12:=s1.trans s2
  refine ⟨_,rfl,a,rfl,rfl,_,rfl,?_⟩
  rw [dec1]
  cases hca:Hush.colour a with
  |false=>
   rw [hca,show Hush.when_ false (t.take 16)=Hush.none16 from rfl] at k
   refine ⟨_,rfl,b,rfl,rfl,_,rfl,?_⟩
   rw [dec1]
   cases hcb:Hush.colour b with
   |false=>
    rw [hcb,show Hush.when_ false (Hush.add (t.drop 16) a)=Hush.none16 from rfl,add_none HM.length_none16,add_none hMl] at k
    exact ⟨_,rfl,k H2 s12⟩
   |true=>
    rw [hcb,show Hush.when_ true (Hush.add (t.drop 16) a)=Hush.add (t.drop 16) a from rfl] at k
    refine ⟨_,rfl,_,rfl,_,rfl,l,_,rfl,s12.seq hl,fun q hq=>?_⟩
    rw [bV_cut32 ht]
    refine ⟨q,_,rfl,SqL.of upd_same,_,_,rfl,rfl,_,rfl,_,_,rfl,rfl,fun σ' es=>?_⟩
    dsimp only at es
    rw [xb hMl hB,xb (la hMl hB) ha] at es
    subst es
    refine ⟨_,rfl,?_⟩
    have z:=k _ (Same.tn s12 hq (.lst (bV (t.drop 16))))
    have e1:Hush.add Hush.none16 (Hush.add (t.drop 16) a)=Hush.add (t.drop 16) a:=by
     apply HM.ofBytes_inj
     ·rw [la HM.length_none16 (la hB ha),la hB ha]
     ·rw [HM.ofBytes_add _ _ (HM.length_none16.trans (la hB ha).symm),HM.ofBytes_none16,Nat.zero_xor]
    rw [e1,<-add_assoc hMl hB ha] at z
    exact z
  |true=>
   rw [hca,show Hush.when_ true (t.take 16)=t.take 16 from rfl] at k
   refine ⟨_,rfl,_,rfl,_,rfl,l,_,rfl,s12.seq hl,fun q hq=>?_⟩
   rw [bV_cut16 ht]
   refine ⟨q,_,rfl,SqL.of upd_same,_,_,rfl,rfl,fun σ' es=>?_⟩
   dsimp only at es
   rw [xb hMl hA] at es
   obtain rfl:σ'=[some (.ref s),some (.int (f:Int)),some (.int (g:Int)),some (.int (ofBytes a:Nat)),some (.int (ofBytes b:Nat)),some (.ref l),some (.int (ofBytes (Hush.add M (t.take 16)):Nat))]:=es
   have s3:=Same.tn s12 hq (.lst (bV (t.take 16)))
   refine ⟨_,rfl,b,rfl,rfl,_,rfl,?_⟩
   rw [dec1]
   cases hcb:Hush.colour b with
   |false=>
    rw [hcb,show Hush.when_ false (Hush.add (t.drop 16) a)=Hush.none16 from rfl,add_none hA] at k
    exact ⟨_,rfl,k _ s3⟩
   |true=>
    rw [hcb,show Hush.when_ true (Hush.add (t.drop 16) a)=Hush.add (t.drop 16) a from rfl] at k
    refine ⟨_,rfl,_,rfl,_,rfl,l,_,rfl,s3.seq hl,fun q2 hq2=>?_⟩
    rw [bV_cut32 ht]
    refine ⟨q2,_,rfl,SqL.of upd_same,_,_,rfl,rfl,_,rfl,_,_,rfl,rfl,fun σ' es=>?_⟩
    dsimp only at es
    rw [xb (la hMl hA) hB,xb (la (la hMl hA) hB) ha] at es
    subst es
    refine ⟨_,rfl,?_⟩
    have z:=k _ (Same.tn s3 hq2 (.lst (bV (t.drop 16))))
    rw [<-add_assoc hMl hA (la hB ha),<-add_assoc (la hMl hA) hB ha] at z
    exact z
def repV (n:Int) (r s:List V):List V:=[V.int n,V.int (r.length:Nat)]++r++[V.int (s.length:Nat)]++s
def spReply:Sp:=fun vs H Q _=>∃(n:Int) (l1 l2:Addr) (r s:List V),vs=[.int n,.ref l1,.ref l2]/\H l1=some (.lst r)/\H l2=some (.lst s)/\r.length<=2000/\s.length<=2000/\
 ∀(H':Hp) (p:Addr),Same H H'->H p=none->H' p=some (.lst (repV n r s))->Q (.ref p) H'
theorem sc_reply:FnScope ["number","row","numbers"] ["number","row","numbers"] (defScope s_reply):=scB
theorem ok_reply (T:Txt K mg A):FnOk P w K mg base CX0 1 A.f_reply A.d_reply ["number","row","numbers"] spReply:=by
 refine T.reply.fn.okA sc_reply (fun _ _ _ _ H _ Q E hr h=>?_)
 obtain ⟨n,l1,l2,r,s,rfl,h1,h2,hr1,hs1,k⟩:=h
 refine ⟨_,pss_one (ps_ret (pe_op op_cat (pe_op op_cat (pe_op op_cat (pe_lst (pa_cons (pv 0) (pa_cons (pe_callB (lenS K) (by rfl) T.n_len PySem.boot_len (pa_cons (pv 1) pa_nil)) pa_nil))) (pv 1))
  (pe_lst (pa_cons (pe_callB (lenS K) (by rfl) T.n_len PySem.boot_len (pa_cons (pv 2) pa_nil)) pa_nil))) (pv 2))),?_⟩
 refine ⟨_,rfl,_,rfl,l1,_,rfl,.inl (SqL.of h1),by show 2<=sizeLine;decide,fun p1 hp1=>?_⟩
 have t1:Same H (upd H p1 (.lst [.int n,.int (r.length:Nat)])):=Same.new hp1
 refine ⟨_,rfl,p1,l1,_,_,rfl,rfl,upd_same,t1 _ _ h1,by show 2+r.length<=sizeLine;rw [sizeLine_eq];omega,fun p2 hp2=>?_⟩
 have t2:=Same.tn t1 hp2 (.lst ([.int n,.int (r.length:Nat)]++r))
 refine ⟨_,rfl,l2,_,rfl,.inl (SqL.of (t2 _ _ h2)),by show 1<=sizeLine;decide,fun p3 hp3=>?_⟩
 have hp23:p2≠p3:=fun z=>by rw [z] at hp3;rw [upd_same] at hp3;cases hp3
 refine ⟨p2,p3,_,_,rfl,rfl,by rw [upd_ne hp23];exact upd_same,upd_same,by simp;rw [sizeLine_eq];omega,fun p4 hp4=>?_⟩
 have t4:=Same.tn (Same.tn t2 hp3 (.lst [.int (s.length:Nat)])) hp4 (.lst ([.int n,.int (r.length:Nat)]++r++[.int (s.length:Nat)]))
 refine ⟨_,rfl,p4,l2,_,_,rfl,rfl,upd_same,t4 _ _ h2,by simp;rw [sizeLine_eq];omega,fun p5 hp5=>?_⟩
 exact k _ p5 (Same.tn t4 hp5 _) (t4.free hp5) upd_same
def spRefusal:Sp:=fun vs H Q _=>∃n:Int,vs=[.int n]/\∀(H':Hp) (p:Addr),Same H H'->H p=none->H' p=some (.lst (repV n [] []))->Q (.ref p) H'
theorem sc_refusal:FnScope ["number"] ["number"] (defScope s_refusal):=scB
theorem ok_refusal (T:Txt K mg A):FnOk P w K mg base CX0 2 A.f_refusal A.d_refusal ["number"] spRefusal:=by
 refine T.refusal.fn.okA sc_refusal (fun _ _ _ _ H _ Q E hr h=>?_)
 obtain ⟨n,rfl,k⟩:=h
 refine ⟨_,pss_one (ps_ret (pe_call (ok_reply T) hr rfl T.reply.mg_ T.reply.fn.kp T.reply.bi .nil pass0 (pa_cons (pv 0) (pa_cons (pe_lst pa_nil) (pa_cons (pe_lst pa_nil) pa_nil))))),?_⟩
 refine ⟨_,rfl,Nat.zero_le _,fun p1 hp1=>⟨Nat.zero_le _,fun p2 hp2=>?_⟩⟩
 have h12:p1≠p2:=fun z=>by rw [z] at hp2;rw [upd_same] at hp2;cases hp2
 refine ⟨n,p1,p2,[],[],rfl,by rw [upd_ne h12];exact upd_same,upd_same,Nat.zero_le _,Nat.zero_le _,fun H' p s1 hp h=>?_⟩
 have t:=Same.tn (Same.new hp1 (o:=.lst [])) hp2 (.lst [])
 exact k H' p (t.trans s1) (t.free hp) h
open Hushwork (Answer says)
def ansV (a:Answer):List V:=(HushworkNeutral.numbersOf a).map V.int
theorem rep_ans (n:Int) (b:Bytes) (l:List Int):repV n (bV b) (l.map V.int)=ansV ⟨n,b,l⟩:=by
 unfold repV ansV HushworkNeutral.numbersOf bV
 simp [List.map_map]
theorem rep_says (n:Int):repV n [] []=ansV (says n):=rep_ans n [] []
theorem rep_bytes (n:Int) (b:Bytes):repV n (bV b) []=ansV ⟨n,b,[]⟩:=rep_ans n b []
def RowsAt (H:Hp) (a:Addr) (rs:List (List V)):Prop:=∃as:List Addr,H a=some (.lst (as.map V.ref))/\as.length=rs.length/\∀(i:Nat) (p:Addr) (r:List V),as[i]?=some p->rs[i]?=some r->H p=some (.lst r)
theorem RowsAt.same {H H':Hp} {a:Addr} {rs:List (List V)} (h:RowsAt H a rs) (s:Same H H'):RowsAt H' a rs:=
 let ⟨as,h1,h2,h3⟩:=h
 ⟨as,s _ _ h1,h2,fun i p r e1 e2=>s _ _ (h3 i p r e1 e2)⟩
theorem RowsAt.row {H:Hp} {a:Addr} {rs:List (List V)} (h:RowsAt H a rs) {i:Nat} {r:List V} (hr:rs[i]?=some r) {z:Int} (hz:z=(i:Int)):
  ∃xs p,H a=some (.lst xs)/\atI xs z=some (V.ref p)/\H p=some (.lst r):=by
 obtain ⟨as,h1,h2,h3⟩:=h
 have hi:i < as.length:=by rw [h2];exact (List.getElem?_eq_some_iff.mp hr).1
 refine ⟨_,as[i],h1,at_of hz ?_,h3 i _ r (List.getElem?_eq_getElem hi) hr⟩
 rw [List.getElem?_map,List.getElem?_eq_getElem hi]
 rfl
def Ends1 (H:Hp) (Q:VK) (a:Answer):Prop:=∀(H':Hp) (p:Addr),Same H H'->H p=none->H' p=some (.lst (ansV a))->Q (.ref p) H'
def spA0:Sp:=fun vs H Q _=>∃(an ar:Addr) (x:Bytes),vs=[.ref an,.ref ar]/\RowsAt H ar [bV x]/\x.length=16/\Ends1 H Q ⟨0,Hush.twice x,[]⟩
theorem sc_answer_twice:FnScope ["numbers","rows"] ["numbers","rows"] (defScope s_answer_twice):=scB
theorem ok_answer_twice (T:Txt K mg A):FnOk P w K mg base CX0 2 A.f_answer_twice A.d_answer_twice ["numbers","rows"] spA0:=by
 refine T.answer_twice.fn.okA sc_answer_twice (fun _ _ _ _ H _ Q E hr h=>?_)
 obtain ⟨an,ar,x,rfl,hR,hx,k⟩:=h
 refine ⟨_,(pss_one (ps_ret (pe_call (ok_reply T) (rm hr) rfl T.reply.mg_ T.reply.fn.kp T.reply.bi .nil pass0 (pa_cons pe_int (pa_cons (pe_call (ok_row_of T) (rm hr) rfl T.row_of.mg_ T.row_of.fn.kp T.row_of.bi .nil pass0 (pa_cons (pe_call (ok_twice T) (rm hr) rfl T.twice.mg_ T.twice.fn.kp T.twice.bi .nil pass0 (pa_cons (pe_call (ok_number_of T) (rm hr) rfl T.number_of.mg_ T.number_of.fn.kp T.number_of.bi .nil pass0 (pa_cons (pe_ix (ixL K) (pv 1) pe_int (fun _ _=>rfl)) pa_nil)) pa_nil)) pa_nil)) (pa_cons (pe_lst pa_nil) pa_nil)))))),?_⟩
 obtain ⟨xs,p,h1,h2,h3⟩:=hR.row (i:=0) rfl (z:=0) rfl
 refine ⟨_,rfl,ar,_,_,_,rfl,rfl,SqL.of h1,h2,p,x,rfl,SqL.of h3,x,rfl,hx,_,rfl,fun q hq=>⟨Nat.zero_le _,fun q2 hq2=>?_⟩⟩
 have h12:q≠q2:=(upd_none hq2).2.symm
 have tt:=Same.tn (Same.new hq (o:=.lst (bV (toBytes 16 (ofBytes (Hush.twice x)))))) hq2 (.lst [])
 refine ⟨0,q,q2,_,[],rfl,by rw [upd_ne h12];exact upd_same,upd_same,?_,Nat.zero_le _,fun H' p2 s2 hp2 e=>?_⟩
 ·rw [bV_length,HM.length_toBytes];decide
 ·rw [rep_bytes,HM.toBytes16 (HM.length_twice x)] at e
  exact k H' p2 (tt.trans s2) (tt.free hp2) e
def spA1:Sp:=fun vs H Q _=>∃(an ar:Addr) (key x t:Bytes),vs=[.ref an,.ref ar]/\RowsAt H ar [bV key,bV x,bV t]/\key.length=16/\x.length=16/\t.length=16/\Ends1 H Q ⟨0,Hush.mix key x t,[]⟩
theorem sc_answer_mix:FnScope ["numbers","rows","schedule"] ["numbers","rows"] (defScope s_answer_mix):=scB
theorem ok_answer_mix (T:Txt K mg A):FnOk P w K mg base CX0 5 A.f_answer_mix A.d_answer_mix ["numbers","rows"] spA1:=by
 refine T.answer_mix.fn.okA sc_answer_mix (fun _ _ _ _ H _ Q E hr h=>?_)
 obtain ⟨an,ar,key,x,t,rfl,hR,hk,hx,ht,k⟩:=h
 have hr1:Room 1 _:=hr.mono (by decide)
 have hr2:Room 2 _:=hr.mono (by decide)
 refine ⟨_,(pss_cons (ps_asg (pe_call (ok_schedule_of T) (rm hr) rfl T.schedule_of.mg_ T.schedule_of.fn.kp T.schedule_of.bi .nil pass0 (pa_cons (pe_ix (ixL K) (pv 1) pe_int (fun _ _=>rfl)) pa_nil)) (pgN (i:=2) sc_answer_mix.nd rfl (Or.inl rfl)))
  (pss_one (ps_ret (pe_call (ok_reply T) (rm hr) rfl T.reply.mg_ T.reply.fn.kp T.reply.bi .nil pass0 (pa_cons pe_int (pa_cons (pe_call (ok_row_of T) (rm hr) rfl T.row_of.mg_ T.row_of.fn.kp T.row_of.bi .nil pass0 (pa_cons (pe_call (ok_mix T) (rm hr) rfl T.mix.mg_ T.mix.fn.kp T.mix.bi .nil pass0 (pa_cons (pv 2) (pa_cons (pe_call (ok_number_of T) (rm hr) rfl T.number_of.mg_ T.number_of.fn.kp T.number_of.bi .nil pass0 (pa_cons (pe_ix (ixL K) (pv 1) pe_int (fun _ _=>rfl)) pa_nil)) (pa_cons (pe_call (ok_number_of T) (rm hr) rfl T.number_of.mg_ T.number_of.fn.kp T.number_of.bi .nil pass0 (pa_cons (pe_ix (ixL K) (pv 1) pe_int (fun _ _=>rfl)) pa_nil)) pa_nil)))) pa_nil)) (pa_cons (pe_lst pa_nil) pa_nil))))))),?_⟩
 obtain ⟨xs,p,h1,h2,h3⟩:=hR.row (i:=0) rfl (z:=0) rfl
 refine ⟨_,rfl,ar,_,_,_,rfl,rfl,SqL.of h1,h2,p,key,rfl,SqL.of h3,hk,fun H1 sc s1 hsc hS σ' es=>?_⟩
 obtain rfl:σ'=[some (.ref an),some (.ref ar),some (.ref sc)]:=es
 have hR1:=hR.same s1
 obtain ⟨xs1,p1,g1,g2,g3⟩:=hR1.row (i:=1) rfl (z:=1) rfl
 obtain ⟨xs2,p2,f1,f2,f3⟩:=hR1.row (i:=2) rfl (z:=2) rfl
 refine ⟨_,rfl,_,rfl,ar,_,_,_,rfl,rfl,SqL.of g1,g2,p1,x,rfl,SqL.of g3,_,rfl,ar,_,_,_,rfl,rfl,SqL.of f1,f2,p2,t,rfl,SqL.of f3,sc,key,x,t,rfl,hS,hx,ht,fun H2 s2=>⟨_,rfl,fun q hq=>⟨Nat.zero_le _,fun q2 hq2=>?_⟩⟩⟩
 have h12:q≠q2:=(upd_none hq2).2.symm
 have tt:=Same.tn (Same.tn (s1.trans s2) hq (.lst (bV (toBytes 16 (ofBytes (Hush.mix key x t)))))) hq2 (.lst [])
 refine ⟨0,q,q2,_,[],rfl,by rw [upd_ne h12];exact upd_same,upd_same,?_,Nat.zero_le _,fun H' p2 s2 hp2 e=>?_⟩
 ·rw [bV_length,HM.length_toBytes];decide
 ·rw [rep_bytes,HM.toBytes16 (HM.length_mix hk ht)] at e
  exact k H' p2 (tt.trans s2) (tt.free hp2) e
def spAsked (A:Ad):Sp:=fun vs H Q _=>∃(an ar:Addr) (f g:Nat) (key a b d:Bytes),vs=[.ref an,.ref ar]/\H an=some (.lst [.int (f:Int),.int (g:Int)])/\RowsAt H ar [bV key,bV a,bV b,bV d]/\key.length=16/\a.length=16/\b.length=16/\d.length=16/\f < 16/\
 ∀(H':Hp) (p:Addr),Same H H'->H p=none->GGNew A.c_GarbledGate H H' p (Hush.table a b d key f g) (Hush.zero a b d key f g)->Q (.ref p) H'
theorem sc_asked_gate:FnScope ["numbers","rows","schedule","a","b","d"] ["numbers","rows"] (defScope s_asked_gate):=scB
theorem ok_asked_gate (T:Txt K mg A):FnOk P w K mg base CX0 8 A.f_asked_gate A.d_asked_gate ["numbers","rows"] (spAsked A):=by
 refine T.asked_gate.fn.okA sc_asked_gate (fun _ _ _ _ H _ Q E hr h=>?_)
 obtain ⟨an,ar,f,g,key,a,b,d,rfl,hn,hR,hk,ha,hb,hd,hf,k⟩:=h
 have hr1:Room 1 _:=hr.mono (by decide)
 have hr2:Room 2 _:=hr.mono (by decide)
 refine ⟨_,(pss_cons (ps_asg (pe_call (ok_schedule_of T) (rm hr) rfl T.schedule_of.mg_ T.schedule_of.fn.kp T.schedule_of.bi .nil pass0 (pa_cons (pe_ix (ixL K) (pv 1) pe_int (fun _ _=>rfl)) pa_nil)) (pgN (i:=2) sc_asked_gate.nd rfl (Or.inl rfl)))
  (pss_cons (ps_asg (pe_call (ok_number_of T) (rm hr) rfl T.number_of.mg_ T.number_of.fn.kp T.number_of.bi .nil pass0 (pa_cons (pe_ix (ixL K) (pv 1) pe_int (fun _ _=>rfl)) pa_nil)) (pgN (i:=3) sc_asked_gate.nd rfl (Or.inl rfl)))
  (pss_cons (ps_asg (pe_call (ok_number_of T) (rm hr) rfl T.number_of.mg_ T.number_of.fn.kp T.number_of.bi .nil pass0 (pa_cons (pe_ix (ixL K) (pv 1) pe_int (fun _ _=>rfl)) pa_nil)) (pgN (i:=4) sc_asked_gate.nd rfl (Or.inl rfl)))
  (pss_cons (ps_asg (pe_call (ok_number_of T) (rm hr) rfl T.number_of.mg_ T.number_of.fn.kp T.number_of.bi .nil pass0 (pa_cons (pe_ix (ixL K) (pv 1) pe_int (fun _ _=>rfl)) pa_nil)) (pgN (i:=5) sc_asked_gate.nd rfl (Or.inl rfl)))
  (pss_one (ps_ret (pe_call (ok_garbled_gate T) (rm hr) rfl T.garbled_gate.mg_ T.garbled_gate.fn.kp T.garbled_gate.bi .nil pass0 (pa_cons (pv 2) (pa_cons (pe_ix (ixL K) (pv 0) pe_int (fun _ _=>rfl)) (pa_cons (pe_ix (ixL K) (pv 0) pe_int (fun _ _=>rfl)) (pa_cons (pv 3) (pa_cons (pv 4) (pa_cons (pv 5) pa_nil))))))))))))),?_⟩
 obtain ⟨xs,p,h1,h2,h3⟩:=hR.row (i:=0) rfl (z:=0) rfl
 refine ⟨_,rfl,ar,_,_,_,rfl,rfl,SqL.of h1,h2,p,key,rfl,SqL.of h3,hk,fun H1 sc s1 hsc hS σ' es=>?_⟩
 obtain rfl:σ'=[some (.ref an),some (.ref ar),some (.ref sc),none,none,none]:=es
 have hR1:=hR.same s1
 obtain ⟨xs1,p1,g1,g2,g3⟩:=hR1.row (i:=1) rfl (z:=1) rfl
 obtain ⟨xs2,p2,f1,f2,f3⟩:=hR1.row (i:=2) rfl (z:=2) rfl
 obtain ⟨xs3,p3,e1,e2,e3⟩:=hR1.row (i:=3) rfl (z:=3) rfl
 refine ⟨_,rfl,ar,_,_,_,rfl,rfl,SqL.of g1,g2,p1,a,rfl,SqL.of g3,fun σ' es=>?_⟩
 obtain rfl:σ'=[some (.ref an),some (.ref ar),some (.ref sc),some (.int (ofBytes a:Nat)),none,none]:=es
 refine ⟨_,rfl,ar,_,_,_,rfl,rfl,SqL.of f1,f2,p2,b,rfl,SqL.of f3,fun σ' es=>?_⟩
 obtain rfl:σ'=[some (.ref an),some (.ref ar),some (.ref sc),some (.int (ofBytes a:Nat)),some (.int (ofBytes b:Nat)),none]:=es
 refine ⟨_,rfl,ar,_,_,_,rfl,rfl,SqL.of e1,e2,p3,d,rfl,SqL.of e3,fun σ' es=>?_⟩
 obtain rfl:σ'=[some (.ref an),some (.ref ar),some (.ref sc),some (.int (ofBytes a:Nat)),some (.int (ofBytes b:Nat)),some (.int (ofBytes d:Nat))]:=es
 have hn1:=s1 _ _ hn
 exact ⟨_,rfl,_,rfl,an,_,_,_,rfl,rfl,SqL.of hn1,rfl,_,rfl,an,_,_,_,rfl,rfl,SqL.of hn1,rfl,_,rfl,_,rfl,_,rfl,sc,key,a,b,d,f,g,rfl,hS,hf,ha,hb,hd,fun H' q s2 hq ⟨dx,l,e1,e2,e3⟩=>k H' q (s1.trans s2) (s1.free hq) ⟨dx,l,e1,e2,s1.free e3⟩⟩
def spA2 (tab:Bool):Sp:=fun vs H Q _=>∃(an ar:Addr) (f g:Nat) (key a b d:Bytes),vs=[.ref an,.ref ar]/\H an=some (.lst [.int (f:Int),.int (g:Int)])/\RowsAt H ar [bV key,bV a,bV b,bV d]/\key.length=16/\a.length=16/\b.length=16/\d.length=16/\
 Ends1 H Q (if f < 16 then ⟨0,if tab=true then Hush.table a b d key f g else Hush.zero a b d key f g,[]⟩ else says (-1))
theorem sc_answer_table:FnScope ["numbers","rows"] ["numbers","rows"] (defScope s_answer_table):=scB
theorem len_table {a b d k:Bytes} (f g:Nat) (ha:a.length=16) (hb:b.length=16) (hd:d.length=16) (hk:k.length=16):(Hush.table a b d k f g).length=32:=by
 have t1:=HM.length_tweak (2*g)
 have t2:=HM.length_tweak (2*g+1)
 unfold Hush.table
 split
 ·rw [List.length_append,la (la (lm hk t1) (lm hk t1)) (lw hd),la (la (lm hk t2) (lm hk t2)) (la ha (lw hd))]
 ·rfl
theorem len_zero {a b d k:Bytes} (f g:Nat) (ha:a.length=16) (hb:b.length=16) (hd:d.length=16) (hk:k.length=16):(Hush.zero a b d k f g).length=16:=by
 have t1:=HM.length_tweak (2*g)
 have t2:=HM.length_tweak (2*g+1)
 cases ho:Hush.odd f with
 |false=>
  rw [zero_even ho]
  exact length_evenZ ha hb hd f
 |true=>
  unfold Hush.zero
  rw [if_pos ho]
  exact la (la (lm hk t1) (lm hk t2)) (lw hd)
theorem ok_answer_table (T:Txt K mg A):FnOk P w K mg base CX0 9 A.f_answer_table A.d_answer_table ["numbers","rows"] (spA2 true):=by
 refine T.answer_table.fn.okA sc_answer_table (fun _ _ _ _ H _ Q E hr h=>?_)
 obtain ⟨an,ar,f,g,key,a,b,d,rfl,hn,hR,hk,ha,hb,hd,k⟩:=h
 have hr1:Room 1 _:=hr.mono (by decide)
 have hr2:Room 2 _:=hr.mono (by decide)
 refine ⟨_,(pss_cons (ps_if (pt_cmpR op_gt (pe_ix (ixL K) (pv 0) pe_int (fun _ _=>rfl)) (pe_gint rfl T.i_MOST_FUNCTION) (nomark _)) (pss_one (ps_ret (pe_call (ok_refusal T) (rm hr) rfl T.refusal.mg_ T.refusal.fn.kp T.refusal.bi .nil pass0 (pa_cons (pe_un un_neg pe_int) pa_nil)))) pss_nil)
  (pss_one (ps_ret (pe_call (ok_reply T) (rm hr) rfl T.reply.mg_ T.reply.fn.kp T.reply.bi .nil pass0 (pa_cons pe_int (pa_cons (fldK K (pe_call (ok_asked_gate T) (rm hr) rfl T.asked_gate.mg_ T.asked_gate.fn.kp T.asked_gate.bi .nil pass0 (pa_cons (pv 0) (pa_cons (pv 1) pa_nil)))) (pa_cons (pe_lst pa_nil) pa_nil))))))),?_⟩
 refine ⟨_,rfl,an,_,_,_,rfl,rfl,SqL.of hn,rfl,_,_,rfl,rfl,_,rfl,iteB (fun c=>?_) fun c=>?_⟩
 ·rw [dT] at c
  rw [if_neg (by omega)] at k
  exact ⟨_,rfl,_,rfl,fun H' p s1 hp e=>k H' p s1 hp (by rw [<-rep_says];exact e)⟩
 ·rw [dF] at c
  have hf:f < 16:=by omega
  rw [if_pos hf,if_pos rfl] at k
  refine ⟨_,rfl,_,rfl,an,ar,f,g,key,a,b,d,rfl,hn,hR,hk,ha,hb,hd,hf,fun H1 q s1 hq ⟨dx,l,g1,g2,_⟩=>?_⟩
  refine ⟨q,_,dx,_,_,rfl,.inl g1,T.c_GarbledGate.cl,T.c_GarbledGate.n,ggf_table _ _,Nat.zero_le _,fun q2 hq2=>?_⟩
  have tt:=Same.tn s1 hq2 (.lst [])
  refine ⟨0,l,q2,_,[],rfl,by rw [upd_ne (ne_of_none g2 hq2)];exact g2,upd_same,?_,Nat.zero_le _,fun H' p2 s2 hp2 e=>?_⟩
  ·rw [bV_length,len_table f g ha hb hd hk];decide
  ·rw [rep_bytes] at e
   exact k H' p2 (tt.trans s2) (tt.free hp2) e
theorem sc_answer_zero:FnScope ["numbers","rows"] ["numbers","rows"] (defScope s_answer_zero):=scB
theorem ok_answer_zero (T:Txt K mg A):FnOk P w K mg base CX0 9 A.f_answer_zero A.d_answer_zero ["numbers","rows"] (spA2 false):=by
 refine T.answer_zero.fn.okA sc_answer_zero (fun _ _ _ _ H _ Q E hr h=>?_)
 obtain ⟨an,ar,f,g,key,a,b,d,rfl,hn,hR,hk,ha,hb,hd,k⟩:=h
 have hr1:Room 1 _:=hr.mono (by decide)
 have hr2:Room 2 _:=hr.mono (by decide)
 refine ⟨_,(pss_cons (ps_if (pt_cmpR op_gt (pe_ix (ixL K) (pv 0) pe_int (fun _ _=>rfl)) (pe_gint rfl T.i_MOST_FUNCTION) (nomark _)) (pss_one (ps_ret (pe_call (ok_refusal T) (rm hr) rfl T.refusal.mg_ T.refusal.fn.kp T.refusal.bi .nil pass0 (pa_cons (pe_un un_neg pe_int) pa_nil)))) pss_nil)
  (pss_one (ps_ret (pe_call (ok_reply T) (rm hr) rfl T.reply.mg_ T.reply.fn.kp T.reply.bi .nil pass0 (pa_cons pe_int (pa_cons (pe_call (ok_row_of T) (rm hr) rfl T.row_of.mg_ T.row_of.fn.kp T.row_of.bi .nil pass0 (pa_cons (fldK K (pe_call (ok_asked_gate T) (rm hr) rfl T.asked_gate.mg_ T.asked_gate.fn.kp T.asked_gate.bi .nil pass0 (pa_cons (pv 0) (pa_cons (pv 1) pa_nil)))) pa_nil)) (pa_cons (pe_lst pa_nil) pa_nil))))))),?_⟩
 refine ⟨_,rfl,an,_,_,_,rfl,rfl,SqL.of hn,rfl,_,_,rfl,rfl,_,rfl,iteB (fun c=>?_) fun c=>?_⟩
 ·rw [dT] at c
  rw [if_neg (by omega)] at k
  exact ⟨_,rfl,_,rfl,fun H' p s1 hp e=>k H' p s1 hp (by rw [<-rep_says];exact e)⟩
 ·rw [dF] at c
  have hf:f < 16:=by omega
  rw [if_pos hf,if_neg (by decide)] at k
  have hz:=len_zero f g ha hb hd hk
  refine ⟨_,rfl,_,rfl,an,ar,f,g,key,a,b,d,rfl,hn,hR,hk,ha,hb,hd,hf,fun H1 q s1 hq ⟨dx,l,g1,g2,_⟩=>?_⟩
  refine ⟨q,_,dx,_,_,rfl,.inl g1,T.c_GarbledGate.cl,T.c_GarbledGate.n,ggf_zero _ _,_,rfl,fun q1 hq1=>⟨Nat.zero_le _,fun q2 hq2=>?_⟩⟩
  have h12:q1≠q2:=(upd_none hq2).2.symm
  rw [HM.toBytes16 hz] at hq2 ⊢
  have tt:=Same.tn (Same.tn s1 hq1 (.lst (bV (Hush.zero a b d key f g)))) hq2 (.lst [])
  refine ⟨0,q1,q2,_,[],rfl,by rw [upd_ne h12];exact upd_same,upd_same,?_,Nat.zero_le _,fun H' p2 s2 hp2 e=>?_⟩
  ·rw [bV_length,hz];decide
  ·rw [rep_bytes] at e
   exact k H' p2 (tt.trans s2) (tt.free hp2) e
def spA4:Sp:=fun vs H Q _=>∃(an ar:Addr) (f g:Nat) (key a b t:Bytes),vs=[.ref an,.ref ar]/\H an=some (.lst [.int (f:Int),.int (g:Int)])/\RowsAt H ar [bV key,bV a,bV b,bV t]/\key.length=16/\a.length=16/\b.length=16/\
 Ends1 H Q (if t.length=32/\f < 16 then ⟨0,Hush.one a b t key f g,[]⟩ else says (-1))
theorem sc_answer_one:FnScope ["numbers","rows","table","schedule","a","b"] ["numbers","rows"] (defScope s_answer_one):=scB
theorem len_one {a b t k:Bytes} (f g:Nat) (hf:f < 16) (ha:a.length=16) (hb:b.length=16) (ht:t.length=32) (hk:k.length=16):(Hush.one a b t k f g).length=16:=by
 have t1:=HM.length_tweak (2*g)
 have t2:=HM.length_tweak (2*g+1)
 cases ho:Hush.odd f with
 |false=>
  rw [one_even ho hf ha hb]
  exact length_evenZ ha hb HM.length_none16 f
 |true=>
  have hA:(t.take 16).length=16:=by rw [List.length_take,ht];rfl
  have hB:(t.drop 16).length=16:=by rw [List.length_drop,ht]
  unfold Hush.one
  rw [if_pos ho]
  exact la (la (lm hk t1) (lm hk t2)) (la (lw hA) (lw (la hB ha)))
theorem ok_answer_one (T:Txt K mg A):FnOk P w K mg base CX0 7 A.f_answer_one A.d_answer_one ["numbers","rows"] spA4:=by
 refine T.answer_one.fn.okA sc_answer_one (fun _ _ _ _ H _ Q E hr h=>?_)
 obtain ⟨an,ar,f,g,key,a,b,t,rfl,hn,hR,hk,ha,hb,k⟩:=h
 have hr1:Room 1 _:=hr.mono (by decide)
 have hr2:Room 2 _:=hr.mono (by decide)
 refine ⟨_,(pss_cons (ps_asg (pe_ix (ixL K) (pv 1) pe_int (fun _ _=>rfl)) (pgN (i:=2) sc_answer_one.nd rfl (Or.inl rfl)))
  (pss_cons (ps_if (PW.pt (pw_or (pt_cmpR op_ne (pe_callB (lenS K) (by rfl) T.n_len PySem.boot_len (pa_cons (pv 2) pa_nil)) (pe_gint rfl T.i_TABLE_BYTES) (nomark _)) (pw_or1 (pt_cmpR op_gt (pe_ix (ixL K) (pv 0) pe_int (fun _ _=>rfl)) (pe_gint rfl T.i_MOST_FUNCTION) (nomark _))))) (pss_one (ps_ret (pe_call (ok_refusal T) (rm hr) rfl T.refusal.mg_ T.refusal.fn.kp T.refusal.bi .nil pass0 (pa_cons (pe_un un_neg pe_int) pa_nil)))) pss_nil)
  (pss_cons (ps_asg (pe_call (ok_schedule_of T) (rm hr) rfl T.schedule_of.mg_ T.schedule_of.fn.kp T.schedule_of.bi .nil pass0 (pa_cons (pe_ix (ixL K) (pv 1) pe_int (fun _ _=>rfl)) pa_nil)) (pgN (i:=3) sc_answer_one.nd rfl (Or.inl rfl)))
  (pss_cons (ps_asg (pe_call (ok_number_of T) (rm hr) rfl T.number_of.mg_ T.number_of.fn.kp T.number_of.bi .nil pass0 (pa_cons (pe_ix (ixL K) (pv 1) pe_int (fun _ _=>rfl)) pa_nil)) (pgN (i:=4) sc_answer_one.nd rfl (Or.inl rfl)))
  (pss_cons (ps_asg (pe_call (ok_number_of T) (rm hr) rfl T.number_of.mg_ T.number_of.fn.kp T.number_of.bi .nil pass0 (pa_cons (pe_ix (ixL K) (pv 1) pe_int (fun _ _=>rfl)) pa_nil)) (pgN (i:=5) sc_answer_one.nd rfl (Or.inl rfl)))
  (pss_one (ps_ret (pe_call (ok_reply T) (rm hr) rfl T.reply.mg_ T.reply.fn.kp T.reply.bi .nil pass0 (pa_cons pe_int (pa_cons (pe_call (ok_row_of T) (rm hr) rfl T.row_of.mg_ T.row_of.fn.kp T.row_of.bi .nil pass0 (pa_cons (pe_call (ok_taken_label T) (rm hr) rfl T.taken_label.mg_ T.taken_label.fn.kp T.taken_label.bi .nil pass0 (pa_cons (pv 3) (pa_cons (pe_ix (ixL K) (pv 0) pe_int (fun _ _=>rfl)) (pa_cons (pe_ix (ixL K) (pv 0) pe_int (fun _ _=>rfl)) (pa_cons (pv 4) (pa_cons (pv 5) (pa_cons (pv 2) pa_nil))))))) pa_nil)) (pa_cons (pe_lst pa_nil) pa_nil))))))))))),?_⟩
 obtain ⟨xs3,p3,e1,e2,e3⟩:=hR.row (i:=3) rfl (z:=3) rfl
 refine ⟨_,rfl,ar,_,_,_,rfl,rfl,SqL.of e1,e2,fun σ' es=>?_⟩
 obtain rfl:σ'=[some (.ref an),some (.ref ar),some (.ref p3),none,none,none]:=es
 refine ⟨_,rfl,p3,_,rfl,.inl (SqL.of e3),rfl,_,rfl,?_⟩
 rw [bV_length]
 refine iteB (fun c=>?_) fun c=>?_
 ·have c1:¬t.length=32:=fun z=>by
   rw [z] at c
   cases c
  rw [if_neg (fun z=>c1 z.1)] at k
  exact ⟨_,rfl,_,rfl,fun H' p s1 hp e=>k H' p s1 hp (by rw [<-rep_says];exact e)⟩
 ·have ht:t.length=32:=by
   simp only [Bool.not_eq_false',decide_eq_true_eq,V.int.injEq] at c
   omega
  refine ⟨_,rfl,an,_,_,_,rfl,rfl,SqL.of hn,rfl,_,_,rfl,rfl,_,rfl,iteB (fun c2=>?_) fun c2=>?_⟩
  ·rw [dT] at c2
   rw [if_neg (by omega)] at k
   exact ⟨_,rfl,_,rfl,fun H' p s1 hp e=>k H' p s1 hp (by rw [<-rep_says];exact e)⟩
  ·rw [dF] at c2
   have hf:f < 16:=by omega
   rw [if_pos ⟨ht,hf⟩] at k
   have hz:=len_one f g hf ha hb ht hk
   obtain ⟨xs,p,h1,h2,h3⟩:=hR.row (i:=0) rfl (z:=0) rfl
   refine ⟨_,rfl,ar,_,_,_,rfl,rfl,SqL.of h1,h2,p,key,rfl,SqL.of h3,hk,fun H1 sc s1 hsc hS σ' es=>?_⟩
   obtain rfl:σ'=[some (.ref an),some (.ref ar),some (.ref p3),some (.ref sc),none,none]:=es
   have hR1:=hR.same s1
   obtain ⟨xs1,p1,g1,g2,g3⟩:=hR1.row (i:=1) rfl (z:=1) rfl
   obtain ⟨xs2,p2,f1,f2,f3⟩:=hR1.row (i:=2) rfl (z:=2) rfl
   refine ⟨_,rfl,ar,_,_,_,rfl,rfl,SqL.of g1,g2,p1,a,rfl,SqL.of g3,fun σ' es=>?_⟩
   obtain rfl:σ'=[some (.ref an),some (.ref ar),some (.ref p3),some (.ref sc),some (.int (ofBytes a:Nat)),none]:=es
   refine ⟨_,rfl,ar,_,_,_,rfl,rfl,SqL.of f1,f2,p2,b,rfl,SqL.of f3,fun σ' es=>?_⟩
   obtain rfl:σ'=[some (.ref an),some (.ref ar),some (.ref p3),some (.ref sc),some (.int (ofBytes a:Nat)),some (.int (ofBytes b:Nat))]:=es
   have hn1:=s1 _ _ hn
   refine ⟨_,rfl,_,rfl,an,_,_,_,rfl,rfl,SqL.of hn1,rfl,_,rfl,an,_,_,_,rfl,rfl,SqL.of hn1,rfl,_,rfl,_,rfl,_,rfl,sc,p3,key,a,b,t,f,g,rfl,hS,hf,ha,hb,SqL.of (s1 _ _ e3),ht,fun H2 s2=>?_⟩
   refine ⟨_,rfl,fun q1 hq1=>⟨Nat.zero_le _,fun q2 hq2=>?_⟩⟩
   have h12:q1≠q2:=(upd_none hq2).2.symm
   rw [HM.toBytes16 hz] at hq2 ⊢
   have tt:=Same.tn (Same.tn (s1.trans s2) hq1 (.lst (bV (Hush.one a b t key f g)))) hq2 (.lst [])
   refine ⟨0,q1,q2,_,[],rfl,by rw [upd_ne h12];exact upd_same,upd_same,?_,Nat.zero_le _,fun H' p2 s2 hp2 e=>?_⟩
   ·rw [bV_length,hz];decide
   ·rw [rep_bytes] at e
    exact k H' p2 (tt.trans s2) (tt.free hp2) e
def GateIs (H:Hp) (n:Int) (an ar:Addr) (ans:Answer):Prop:=
 (n=0/\∃x:Bytes,RowsAt H ar [bV x]/\x.length=16/\ans=⟨0,Hush.twice x,[]⟩)\/
 (n=1/\∃key x t:Bytes,RowsAt H ar [bV key,bV x,bV t]/\key.length=16/\x.length=16/\t.length=16/\ans=⟨0,Hush.mix key x t,[]⟩)\/
 (n=2/\∃(f g:Nat) (key a b d:Bytes),H an=some (.lst [.int (f:Int),.int (g:Int)])/\RowsAt H ar [bV key,bV a,bV b,bV d]/\key.length=16/\a.length=16/\b.length=16/\d.length=16/\ans=if f < 16 then ⟨0,Hush.table a b d key f g,[]⟩ else says (-1))\/
 (n=3/\∃(f g:Nat) (key a b d:Bytes),H an=some (.lst [.int (f:Int),.int (g:Int)])/\RowsAt H ar [bV key,bV a,bV b,bV d]/\key.length=16/\a.length=16/\b.length=16/\d.length=16/\ans=if f < 16 then ⟨0,Hush.zero a b d key f g,[]⟩ else says (-1))\/
 (n=4/\∃(f g:Nat) (key a b t:Bytes),H an=some (.lst [.int (f:Int),.int (g:Int)])/\RowsAt H ar [bV key,bV a,bV b,bV t]/\key.length=16/\a.length=16/\b.length=16/\ans=if t.length=32/\f < 16 then ⟨0,Hush.one a b t key f g,[]⟩ else says (-1))
def spGate:Sp:=fun vs H Q _=>∃(n:Int) (an ar:Addr) (ans:Answer),vs=[.int n,.ref an,.ref ar]/\GateIs H n an ar ans/\Ends1 H Q ans
theorem sc_gate_answer:FnScope ["number","numbers","rows","answer"] ["number","numbers","rows"] (defScope s_gate_answer):=scB
theorem ok_gate_answer (T:Txt K mg A):FnOk P w K mg base CX0 10 A.f_gate_answer A.d_gate_answer ["number","numbers","rows"] spGate:=by
 refine T.gate_answer.fn.okA sc_gate_answer (fun _ _ _ _ H _ Q E hr h=>?_)
 obtain ⟨n,an,ar,ans,rfl,h,k⟩:=h
 rcases h with ⟨rfl,x,hR,hx,rfl⟩|⟨rfl,key,x,t,hR,hk,hx,ht,rfl⟩|⟨rfl,f,g,key,a,b,d,hn,hR,hk,ha,hb,hd,rfl⟩|⟨rfl,f,g,key,a,b,d,hn,hR,hk,ha,hb,hd,rfl⟩|⟨rfl,f,g,key,a,b,t,hn,hR,hk,ha,hb,rfl⟩
 ·refine ⟨_,(pss_cons (ps_asg (kgetK K (pe_gref rfl T.t_GATE_CALLS.mg_) (pv 0) (fun _ _=>rfl)) (pgN (i:=3) sc_gate_answer.nd rfl (Or.inl rfl)))
  (pss_one (ps_ret (pe_callV (i:=3) (ok_answer_twice T) (rm hr) rfl (Or.inl rfl) T.answer_twice.fn.kp T.answer_twice.bi .nil pass0 (pa_cons (pv 1) (pa_cons (pv 2) pa_nil)))))),?_⟩
  refine ⟨_,rfl,_,_,_,_,rfl,T.t_GATE_CALLS.dk,rfl,rfl,fun σ' es=>?_⟩
  subst es
  exact ⟨rfl,_,rfl,_,rfl,an,ar,x,rfl,hR,hx,k⟩
 ·refine ⟨_,(pss_cons (ps_asg (kgetK K (pe_gref rfl T.t_GATE_CALLS.mg_) (pv 0) (fun _ _=>rfl)) (pgN (i:=3) sc_gate_answer.nd rfl (Or.inl rfl)))
  (pss_one (ps_ret (pe_callV (i:=3) (ok_answer_mix T) (rm hr) rfl (Or.inl rfl) T.answer_mix.fn.kp T.answer_mix.bi .nil pass0 (pa_cons (pv 1) (pa_cons (pv 2) pa_nil)))))),?_⟩
  refine ⟨_,rfl,_,_,_,_,rfl,T.t_GATE_CALLS.dk,rfl,rfl,fun σ' es=>?_⟩
  subst es
  exact ⟨rfl,_,rfl,_,rfl,an,ar,key,x,t,rfl,hR,hk,hx,ht,k⟩
 ·refine ⟨_,(pss_cons (ps_asg (kgetK K (pe_gref rfl T.t_GATE_CALLS.mg_) (pv 0) (fun _ _=>rfl)) (pgN (i:=3) sc_gate_answer.nd rfl (Or.inl rfl)))
  (pss_one (ps_ret (pe_callV (i:=3) (ok_answer_table T) (rm hr) rfl (Or.inl rfl) T.answer_table.fn.kp T.answer_table.bi .nil pass0 (pa_cons (pv 1) (pa_cons (pv 2) pa_nil)))))),?_⟩
  refine ⟨_,rfl,_,_,_,_,rfl,T.t_GATE_CALLS.dk,rfl,rfl,fun σ' es=>?_⟩
  subst es
  exact ⟨rfl,_,rfl,_,rfl,an,ar,f,g,key,a,b,d,rfl,hn,hR,hk,ha,hb,hd,k⟩
 ·refine ⟨_,(pss_cons (ps_asg (kgetK K (pe_gref rfl T.t_GATE_CALLS.mg_) (pv 0) (fun _ _=>rfl)) (pgN (i:=3) sc_gate_answer.nd rfl (Or.inl rfl)))
  (pss_one (ps_ret (pe_callV (i:=3) (ok_answer_zero T) (rm hr) rfl (Or.inl rfl) T.answer_zero.fn.kp T.answer_zero.bi .nil pass0 (pa_cons (pv 1) (pa_cons (pv 2) pa_nil)))))),?_⟩
  refine ⟨_,rfl,_,_,_,_,rfl,T.t_GATE_CALLS.dk,rfl,rfl,fun σ' es=>?_⟩
  subst es
  exact ⟨rfl,_,rfl,_,rfl,an,ar,f,g,key,a,b,d,rfl,hn,hR,hk,ha,hb,hd,k⟩
 ·refine ⟨_,(pss_cons (ps_asg (kgetK K (pe_gref rfl T.t_GATE_CALLS.mg_) (pv 0) (fun _ _=>rfl)) (pgN (i:=3) sc_gate_answer.nd rfl (Or.inl rfl)))
  (pss_one (ps_ret (pe_callV (i:=3) (ok_answer_one T) (rm hr) rfl (Or.inl rfl) T.answer_one.fn.kp T.answer_one.bi .nil pass0 (pa_cons (pv 1) (pa_cons (pv 2) pa_nil)))))),?_⟩
  refine ⟨_,rfl,_,_,_,_,rfl,T.t_GATE_CALLS.dk,rfl,rfl,fun σ' es=>?_⟩
  subst es
  exact ⟨rfl,_,rfl,_,rfl,an,ar,f,g,key,a,b,t,rfl,hn,hR,hk,ha,hb,k⟩
structure WfC (c:Hush.Circuit):Prop where
 na:c.na<=16
 nb:c.nb<=16
 one:1<=c.na+c.nb
 ng:c.gates.length<=32
 no:c.outs.length<=16
 gate:∀(i:Nat) (g:Hush.Gate),c.gates[i]?=some g->g.f < 16/\g.a < c.ins+i/\g.b < c.ins+i
 out:∀o∈c.outs,o < c.ins+c.gates.length
def cfs (na nb:Nat) (lg lo:Addr):List (Str×V):=[("maker_bits",.int (na:Int)),("taker_bits",.int (nb:Int)),("inputs",.int ((na+nb:Nat):Int)),("gates",.ref lg),("outputs",.ref lo)]
section
variable {na nb:Nat} {lg lo:Addr}
theorem cfs_ma:(cfs na nb lg lo).lookup ("maker_bits":Str)=some (.int (na:Int)):=by rfl
theorem cfs_tb:(cfs na nb lg lo).lookup ("taker_bits":Str)=some (.int (nb:Int)):=by
 unfold cfs
 rw [List.lookup_cons,show (("taker_bits":Str) == "maker_bits")=false by decide+kernel]
 rfl
theorem cfs_in:(cfs na nb lg lo).lookup ("inputs":Str)=some (.int ((na+nb:Nat):Int)):=by
 unfold cfs
 rw [List.lookup_cons,show (("inputs":Str) == "maker_bits")=false by decide+kernel]
 dsimp only
 rw [List.lookup_cons,show (("inputs":Str) == "taker_bits")=false by decide+kernel]
 rfl
theorem cfs_ga:(cfs na nb lg lo).lookup ("gates":Str)=some (.ref lg):=by
 unfold cfs
 simp only [List.lookup_cons,show (("gates":Str) == "maker_bits")=false by decide+kernel,show (("gates":Str) == "taker_bits")=false by decide+kernel,show (("gates":Str) == "inputs")=false by decide+kernel]
 rfl
theorem cfs_ou:(cfs na nb lg lo).lookup ("outputs":Str)=some (.ref lo):=by
 unfold cfs
 simp only [List.lookup_cons,show (("outputs":Str) == "maker_bits")=false by decide+kernel,show (("outputs":Str) == "taker_bits")=false by decide+kernel,show (("outputs":Str) == "inputs")=false by decide+kernel,show (("outputs":Str) == "gates")=false by decide+kernel]
 rfl
end
def gV (g:Hush.Gate):List V:=[.int (g.f:Int),.int (g.a:Int),.int (g.b:Int)]
def nV (l:List Nat):List V:=l.map fun (n:Nat)=>.int (n:Int)
structure CircAt (C:Addr) (H:Hp) (a:Addr) (c:Hush.Circuit):Prop where
 wf:WfC c
 ex:∃(dx lg lo:Addr) (gs:List Addr),Fz H a (.ins C dx (cfs c.na c.nb lg lo))/\Fz H lg (.lst (gs.map V.ref))/\gs.length=c.gates.length/\
  (∀(i:Nat) (p:Addr) (g:Hush.Gate),gs[i]?=some p->c.gates[i]?=some g->H p=some (.tup (gV g)))/\Fz H lo (.lst (nV c.outs))
theorem CircAt.keep {F:List Addr} {C:Addr} {H H':Hp} {a:Addr} {c:Hush.Circuit} (h:CircAt C H a c) (k:Keep F H H'):CircAt C H' a c:=
 let ⟨dx,lg,lo,gs,h1,h2,h3,h4,h5⟩:=h.ex
 ⟨h.wf,dx,lg,lo,gs,k.fz h1,k.fz h2,h3,fun i p g e1 e2=>k.tup (h4 i p g e1 e2),k.fz h5⟩
theorem CircAt.same {C:Addr} {H H':Hp} {a:Addr} {c:Hush.Circuit} (h:CircAt C H a c) (k:Same H H'):CircAt C H' a c:=h.keep (k.keep (F:=[]))
def spCInit (C:Addr):Sp:=fun vs H Q _=>∃(p dx lg lo:Addr) (na nb:Nat),vs=[.ref p,.int (na:Int),.int (nb:Int),.ref lg,.ref lo]/\H p=some (.ins C dx [])/\Q .non (upd H p (.ins C dx (cfs na nb lg lo)))
theorem sc_Circuit_init:FnScope ["self","maker_bits","taker_bits","gates","outputs"] ["self","maker_bits","taker_bits","gates","outputs"] (defScope s_Circuit_init):=scB
theorem cfs_put (na nb:Nat) (lg lo:Addr):putF "outputs" (.ref lo) (putF "gates" (.ref lg) (putF "inputs" (.int ((na:Int)+(nb:Int))) (putF "taker_bits" (.int (nb:Int)) (putF "maker_bits" (.int (na:Int)) []))))=cfs na nb lg lo:=by
 simp only [putF,show ¬("maker_bits":Str)="taker_bits" by decide+kernel,show ¬("maker_bits":Str)="inputs" by decide+kernel,show ¬("maker_bits":Str)="gates" by decide+kernel,show ¬("maker_bits":Str)="outputs" by decide+kernel,
  show ¬("taker_bits":Str)="inputs" by decide+kernel,show ¬("taker_bits":Str)="gates" by decide+kernel,show ¬("taker_bits":Str)="outputs" by decide+kernel,show ¬("inputs":Str)="gates" by decide+kernel,show ¬("inputs":Str)="outputs" by decide+kernel,show ¬("gates":Str)="outputs" by decide+kernel,if_false]
 rfl
theorem ok_Circuit_init (T:Txt K mg A):FnOk P w K mg base CX0 1 A.f_Circuit_init A.d_Circuit_init ["self","maker_bits","taker_bits","gates","outputs"] (spCInit A.c_Circuit):=by
 refine T.Circuit_init.fn.okA sc_Circuit_init (fun _ _ _ _ H _ Q E hr h=>?_)
 obtain ⟨p,dx,lg,lo,na,nb,rfl,hp,k⟩:=h
 refine ⟨_,(pss_cons (ps_fld (pv 0) (pv 1) rfl)
  (pss_cons (ps_fld (pv 0) (pv 2) rfl)
  (pss_cons (ps_fld (pv 0) (pe_op op_add (pv 1) (pv 2)) rfl)
  (pss_cons (ps_fld (pv 0) (pv 3) rfl)
  (pss_one (ps_fld (pv 0) (pv 4) rfl)))))),?_⟩
 have cl:=T.c_Circuit.cl
 refine ⟨_,rfl,_,rfl,p,_,dx,_,rfl,hp,cl,T.c_Circuit.n,(by show 0 < 1000;decide),?_⟩
 refine ⟨_,rfl,_,rfl,p,_,dx,_,rfl,upd_same,cl,T.c_Circuit.n,(by show 1 < 1000;decide),?_⟩
 refine ⟨_,rfl,_,rfl,_,_,rfl,rfl,_,rfl,p,_,dx,_,rfl,upd_same,cl,T.c_Circuit.n,(by show 2 < 1000;decide),?_⟩
 refine ⟨_,rfl,_,rfl,p,_,dx,_,rfl,upd_same,cl,T.c_Circuit.n,(by show 3 < 1000;decide),?_⟩
 refine ⟨_,rfl,_,rfl,p,_,dx,_,rfl,upd_same,cl,T.c_Circuit.n,(by show 4 < 1000;decide),?_⟩
 rw [upd_upd,upd_upd,upd_upd,upd_upd,cfs_put]
 exact k
theorem getV {l:List Nat} {i:Nat} {x:V} (h:(nV l)[i]?=some x):∃n,l[i]?=some n/\x=.int (n:Int):=by
 unfold nV at h
 rw [List.getElem?_map] at h
 cases e:l[i]? with
 |none=>rw [e] at h;cases h
 |some c=>rw [e] at h;exact ⟨c,rfl,(Option.some.inj h).symm⟩
theorem nV_length (l:List Nat):(nV l).length=l.length:=List.length_map ..
theorem refs_get {gs:List Addr} {i:Nat} {x:V} (h:(gs.map V.ref)[i]?=some x):∃p,gs[i]?=some p/\x=V.ref p:=by
 rw [List.getElem?_map] at h
 cases e:gs[i]? with
 |none=>rw [e] at h;cases h
 |some c=>rw [e] at h;exact ⟨c,rfl,(Option.some.inj h).symm⟩
def oV (l:List Bool):List V:=l.map fun b=>.int (b.toNat:Int)
theorem oV_length (l:List Bool):(oV l).length=l.length:=List.length_map ..
theorem oV_at {l:List Bool} {i:Nat} (h:i < l.length):atI (oV l) (i:Int)=some (.int ((l.getD i false).toNat:Int)):=by
 refine atI_nat ?_
 unfold oV
 rw [List.getElem?_map,List.getElem?_eq_getElem h,List.getD_eq_getElem?_getD,List.getElem?_eq_getElem h]
 rfl
def bitsN (c:Hush.Circuit) (l:List Bool) (i:Nat):List Bool:=(c.gates.take i).foldl (fun (v:List Bool) (x:Hush.Gate)=>v++[Hush.val x.f (v.getD x.a false) (v.getD x.b false)]) l
theorem bitsN_succ {c:Hush.Circuit} {l:List Bool} {i:Nat} {g:Hush.Gate} (h:c.gates[i]?=some g):bitsN c l (i+1)=bitsN c l i++[Hush.val g.f ((bitsN c l i).getD g.a false) ((bitsN c l i).getD g.b false)]:=by
 unfold bitsN
 rw [take_snoc h,List.foldl_append]
 rfl
theorem bitsN_length {c:Hush.Circuit} {l:List Bool}:∀i,i<=c.gates.length->(bitsN c l i).length=l.length+i
 |0,_=>rfl
 |i+1,h=>by
  rw [bitsN_succ (List.getElem?_eq_getElem (show i < c.gates.length by omega)),List.length_append,bitsN_length i (by omega)]
  rfl
theorem bitsN_all (c:Hush.Circuit) (l:List Bool):bitsN c l c.gates.length=Hush.bits c l:=by
 unfold bitsN Hush.bits
 rw [List.take_length]
def spShape (C:Addr):Sp:=fun vs H Q _=>∃(p:Addr) (c:Hush.Circuit),vs=[.ref p]/\CircAt C H p c/\
 ∀(H':Hp) (l:Addr),Same H H'->H l=none->H' l=some (.lst ((Hushwork.ints [c.na,c.nb,c.gates.length,c.outs.length,c.odds]).map V.int))->Q (.ref l) H'
theorem sc_Circuit_shape:FnScope ["self","odd","gate"] ["self"] (defScope s_Circuit_shape):=scB
theorem ok_Circuit_shape (T:Txt K mg A):FnOk P w K mg base CX0 2 A.f_Circuit_shape A.d_Circuit_shape ["self"] (spShape A.c_Circuit):=by
 refine T.Circuit_shape.fn.okA sc_Circuit_shape (fun _ _ _ _ H _ Q E hr h=>?_)
 obtain ⟨p,c,rfl,hC,k⟩:=h
 refine ⟨_,(pss_cons (ps_setLc (i:=1) (own:=[("gate",2)]) rfl sc_Circuit_shape.nd rfl rfl (sw_true rfl rfl rfl rfl) (pi_list (fldK K (pv 0))) (blkOk_by rfl) (fun _ _ _ _ _=>(pg_name (i:=2) sc_Circuit_shape.nd rfl (Or.inl rfl))) (fun _ _ _ _ _=>(pts_one (truthK K (pe_call (ok_is_odd T) (rm hr) rfl T.is_odd.mg_ T.is_odd.fn.kp T.is_odd.bi .nil pass0 (pa_cons (pe_ix (ixT K) (pv 2) pe_int (fun _ _=>rfl)) pa_nil)) (fun _=>rfl)))) (fun _ _ _ _ _=>(pv 2)))
  (pss_one (ps_ret (pe_lst (pa_cons (fldK K (pv 0)) (pa_cons (fldK K (pv 0)) (pa_cons (pe_callB (lenS K) (by rfl) T.n_len PySem.boot_len (pa_cons (fldK K (pv 0)) pa_nil)) (pa_cons (pe_callB (lenS K) (by rfl) T.n_len PySem.boot_len (pa_cons (fldK K (pv 0)) pa_nil)) (pa_cons (pe_callB (lenS K) (by rfl) T.n_len PySem.boot_len (pa_cons (pv 1) pa_nil)) pa_nil))))))))),?_⟩
 have cl:=T.c_Circuit.cl
 obtain ⟨dx,lg,lo,gs,h1,h2,h3,h4,h5⟩:=hC.ex
 have wf:=hC.wf
 refine ⟨_,rfl,p,_,dx,_,_,rfl,h1.rd,cl,T.c_Circuit.n,cfs_ga,lg,rfl,⟨_,h2.sqL⟩,fun D hD=>?_⟩
 refine lc_list (K:=K) (a:=lg) (xs:=gs.map V.ref) (fun i H'=>Same H H'/\∃acc,H' D=some (.lst acc)/\acc.length=((c.gates.take i).filter fun x=>Hush.odd x.f).length) ⟨Same.new hD,[],upd_same,rfl⟩ (fun i H' _ p=>(Same.fz p.1 h2).sqL) ?_ ?_
 ·rintro i u H' hu ⟨s1,acc,hD',hl⟩
  obtain ⟨q,hq,rfl⟩:=refs_get hu
  have hi:i < c.gates.length:=by rw [<-h3];exact (List.getElem?_eq_some_iff.mp hq).1
  obtain ⟨g,hg⟩:∃g,c.gates[i]?=some g:=⟨_,List.getElem?_eq_getElem hi⟩
  have ht:=s1 _ _ (h4 i q g hq hg)
  have ef:((c.gates.take (i+1)).filter fun x=>Hush.odd x.f)=((c.gates.take i).filter fun x=>Hush.odd x.f)++(if Hush.odd g.f=true then [g] else []):=by
   rw [take_snoc hg,List.filter_append]
   congr 1
   rw [List.filter_cons]
   split <;> rfl
  have hsz:acc.length < sizeLine:=sz (m:=32) (by
   rw [hl]
   exact Nat.le_trans (List.length_filter_le _ _) (by rw [List.length_take];have:=wf.ng;omega))
  refine ⟨rfl,_,rfl,q,_,_,_,rfl,rfl,SqT.of ht,rfl,g.f,rfl,(wf.gate i g hg).1,_,rfl,iteB (fun ho=>?_) fun ho=>?_⟩
  ·refine ⟨_,rfl,acc,hD',hsz,Same.young s1 hD,_,upd_same,?_⟩
   rw [ef,if_pos ho,List.length_append,List.length_append,hl]
   rfl
  ·refine ⟨s1,acc,hD',?_⟩
   rw [ef,if_neg (by rw [ho];decide),List.append_nil,hl]
 ·rintro H' ⟨s1,acc,hD',hl⟩
  rw [List.length_map,h3,List.take_length] at hl
  have r1:=Same.fz s1 h1
  refine ⟨_,rfl,p,_,dx,_,_,rfl,r1.rd,cl,T.c_Circuit.n,cfs_ma,?_⟩
  refine ⟨_,rfl,p,_,dx,_,_,rfl,r1.rd,cl,T.c_Circuit.n,cfs_tb,?_⟩
  refine ⟨_,rfl,p,_,dx,_,_,rfl,r1.rd,cl,T.c_Circuit.n,cfs_ga,lg,_,rfl,.inl (Same.fz s1 h2).sqL,?_⟩
  refine ⟨_,rfl,p,_,dx,_,_,rfl,r1.rd,cl,T.c_Circuit.n,cfs_ou,lo,_,rfl,.inl (Same.fz s1 h5).sqL,?_⟩
  refine ⟨_,rfl,D,_,rfl,.inl (SqL.of hD'),by show 5<=sizeLine;decide,fun l hl2=>?_⟩
  refine k _ l (Same.tn s1 hl2 _) (s1.free hl2) ?_
  rw [upd_same,List.length_map,h3,nV_length,hl]
  rfl
def spOut (K:W.Frag) (C:Addr):Sp:=fun vs H Q _=>∃(p a:Addr) (c:Hush.Circuit) (l:List Bool),vs=[.ref p,.ref a]/\CircAt C H p c/\SqL K H a (oV l)/\l.length=c.ins/\
 ∀(H':Hp) (q:Addr),Same H H'->H q=none->H' q=some (.lst (oV (Hush.plain c l)))->Q (.ref q) H'
theorem sc_Circuit_output_bits:FnScope ["self","bits","values","f","a","b","wire"] ["self","bits"] (defScope s_Circuit_output_bits):=scB
theorem ok_Circuit_output_bits (T:Txt K mg A):FnOk P w K mg base CX0 2 A.f_Circuit_output_bits A.d_Circuit_output_bits ["self","bits"] (spOut K A.c_Circuit):=by
 refine T.Circuit_output_bits.fn.okA sc_Circuit_output_bits (fun _ _ _ _ H _ Q E hr h=>?_)
 obtain ⟨p,a,c,l,rfl,hC,ha,hl,k⟩:=h
 refine ⟨_,(pss_cons (ps_asg (pe_callTy (listS K) (by rfl) T.n_list PyProof.Rows.boot_list (pa_cons (pv 1) pa_nil)) (pgN (i:=2) sc_Circuit_output_bits.nd rfl (Or.inr rfl)))
  (pss_cons (ps_for PassesOwn.never rfl (pi_list (fldK K (pv 0))) (gTupK K (n:=3) (pgs_cons (pg_name (i:=3) sc_Circuit_output_bits.nd rfl (Or.inl rfl)) (pgs_cons (pg_name (i:=4) sc_Circuit_output_bits.nd rfl (Or.inl rfl)) (pgs_cons (pg_name (i:=5) sc_Circuit_output_bits.nd rfl (Or.inl rfl)) pgs_nil)))) (pss_one (ps_expr (pe_bm PySem.F.plainAttrs_list PySem.F.slot_list_append PySem.F.type_list_append mt_append (pv 2) (pa_cons (pe_call (ok_gate_value T) (rm hr) rfl T.gate_value.mg_ T.gate_value.fn.kp T.gate_value.bi .nil pass0 (pa_cons (pv 3) (pa_cons (pe_ix (ixL K) (pv 2) (pv 4) (fun _ _=>rfl)) (pa_cons (pe_ix (ixL K) (pv 2) (pv 5) (fun _ _=>rfl)) pa_nil)))) pa_nil)))))
  (pss_one (ps_ret (pe_lc (own:=[("wire",6)]) rfl sc_Circuit_output_bits.nd (pi_list (fldK K (pv 0))) (blkOk_by rfl) (fun _ _ _ _ _=>(pg_name (i:=6) sc_Circuit_output_bits.nd rfl (Or.inl rfl))) (fun _ _ _ _ _=>pts_nil) (fun _ _ _ _ _=>(pe_ix (ixL K) (pv 2) (pv 6) (fun _ _=>rfl)))))))),?_⟩
 have cl:=T.c_Circuit.cl
 obtain ⟨dx,lg,lo,gs,h1,h2,h3,h4,h5⟩:=hC.ex
 have wf:=hC.wf
 refine ⟨_,rfl,a,_,rfl,.inl ha,fun Vs hV=>fun σ' es=>?_⟩
 obtain rfl:σ'=[some (.ref p),some (.ref a),some (.ref Vs),none,none,none,none]:=es
 have s0:Same H (upd H Vs (.lst (oV l))):=Same.new hV
 refine ⟨_,rfl,p,_,dx,_,_,rfl,(Same.fz s0 h1).rd,cl,T.c_Circuit.n,cfs_ga,lg,rfl,⟨_,(Same.fz s0 h2).sqL⟩,?_⟩
 refine for_list (K:=K) (a:=lg) (xs:=gs.map V.ref) (fun i σ H'=>∃v3 v4 v5,σ=[some (.ref p),some (.ref a),some (.ref Vs),v3,v4,v5,none]/\Same H H'/\H' Vs=some (.lst (oV (bitsN c l i)))) ⟨none,none,none,rfl,s0,upd_same⟩ (fun i σ H' _ ⟨_,_,_,_,s1,_⟩=>(Same.fz s1 h2).sqL) ?_ ?_
 ·rintro i u σ H' hu ⟨v3,v4,v5,rfl,s1,hV'⟩
  obtain ⟨q,hq,rfl⟩:=refs_get hu
  have hi:i < c.gates.length:=by rw [<-h3];exact (List.getElem?_eq_some_iff.mp hq).1
  obtain ⟨g,hg⟩:∃g,c.gates[i]?=some g:=⟨_,List.getElem?_eq_getElem hi⟩
  have ht:=s1 _ _ (h4 i q g hq hg)
  obtain ⟨w1,w2,w3⟩:=wf.gate i g hg
  have hlen:(bitsN c l i).length=c.ins+i:=by rw [bitsN_length i (by omega),hl]
  refine ⟨q,_,rfl,SqT.of ht,rfl,_,_,rfl,_,_,rfl,_,_,rfl,rfl,_,rfl,.inl ⟨rfl,_,SqL.of hV'⟩,?_⟩
  refine ⟨_,rfl,_,rfl,_,rfl,Vs,_,_,_,rfl,rfl,SqL.of hV',oV_at (by omega),_,rfl,_,rfl,Vs,_,_,_,rfl,rfl,SqL.of hV',oV_at (by omega),g.f,_,_,rfl,Vs,_,_,rfl,rfl,hV',?_,_,_,_,rfl,Same.young s1 hV,?_⟩
  ·have:=wf.ng
   have:=wf.na
   have:=wf.nb
   have hin:c.ins=c.na+c.nb:=rfl
   exact sz (m:=100) (by rw [oV_length];omega)
  ·rw [upd_same,bitsN_succ hg]
   unfold oV
   rw [List.map_append]
   rfl
 ·rintro σ H' ⟨v3,v4,v5,rfl,s1,hV'⟩
  rw [List.length_map,h3,bitsN_all] at hV'
  have hbl:(Hush.bits c l).length=c.ins+c.gates.length:=by rw [<-bitsN_all,bitsN_length _ (Nat.le_refl _),hl]
  refine ⟨_,rfl,p,_,dx,_,_,rfl,(Same.fz s1 h1).rd,cl,T.c_Circuit.n,cfs_ou,lo,rfl,⟨_,(Same.fz s1 h5).sqL⟩,fun D hD=>?_⟩
  refine lc_list (K:=K) (a:=lo) (xs:=nV c.outs) (fun i H2=>Same H' H2/\H2 D=some (.lst ((oV (Hush.plain c l)).take i))) ⟨Same.new hD,upd_same⟩ (fun i H2 _ p=>(Same.fz (s1.trans p.1) h5).sqL) ?_ ?_
  ·rintro i u H2 hu ⟨s2,hD2⟩
   obtain ⟨n,hn,rfl⟩:=getV hu
   have hlt:=wf.out n (List.mem_of_getElem? hn)
   refine ⟨rfl,_,rfl,_,rfl,Vs,_,_,_,rfl,rfl,SqL.of (s2 _ _ hV'),oV_at (by omega),_,hD2,?_,Same.young s2 hD,?_⟩
   ·have:=wf.no
    have hi:i < c.outs.length:=(List.getElem?_eq_some_iff.mp hn).1
    exact sz (m:=16) (by rw [List.length_take];omega)
   ·rw [upd_same]
    have e:(oV (Hush.plain c l))[i]?=some (.int (((Hush.bits c l).getD n false).toNat:Int)):=by
     unfold oV Hush.plain
     rw [List.getElem?_map,List.getElem?_map,hn]
     rfl
    rw [take_snoc e]
  ·rintro H2 ⟨s2,hD2⟩
   refine k H2 D (s1.trans s2) (s1.free hD) ?_
   rw [hD2,nV_length,List.take_of_length_le]
   rw [oV_length]
   unfold Hush.plain
   rw [List.length_map]
   exact Nat.le_refl _
structure Wk (K:W.Frag) (C:Addr) (A:Ad):Prop where
 cl:Cls K C
 na:∀f∈(["circuit","schedule","labels","delta"]:List Str),NoAttr K C f
 m_gates_done:Meth K C "gates_done" A.f_GateWalk_gates_done
 m_all_done:Meth K C "all_done" A.f_GateWalk_all_done
 m_do_even_gates:Meth K C "do_even_gates" A.f_GateWalk_do_even_gates
 m_has_input:Meth K C "has_input" A.f_GateWalk_has_input
 m_has_output:Meth K C "has_output" A.f_GateWalk_has_output
 m_output_label:Meth K C "output_label" A.f_GateWalk_output_label
section
variable {K:W.Frag} {mg:Str->Option Value} {A:Ad}
theorem wkM (T:Txt K mg A):Wk K A.c_Maker A:=by
 have me:=T.w_Maker.me
 exact ⟨T.w_Maker.cl,T.w_Maker.na,me (_,_) (.head _),me (_,_) (.tail _ (.head _)),me (_,_) (.tail _ (.tail _ (.head _))),me (_,_) (.tail _ (.tail _ (.tail _ (.head _)))),me (_,_) (.tail _ (.tail _ (.tail _ (.tail _ (.head _))))),me (_,_) (.tail _ (.tail _ (.tail _ (.tail _ (.tail _ (.head _))))))⟩
theorem wkT (T:Txt K mg A):Wk K A.c_Taker A:=by
 have me:=T.w_Taker.me
 exact ⟨T.w_Taker.cl,T.w_Taker.na,me (_,_) (.head _),me (_,_) (.tail _ (.head _)),me (_,_) (.tail _ (.tail _ (.head _))),me (_,_) (.tail _ (.tail _ (.tail _ (.head _)))),me (_,_) (.tail _ (.tail _ (.tail _ (.tail _ (.head _))))),me (_,_) (.tail _ (.tail _ (.tail _ (.tail _ (.tail _ (.head _))))))⟩
theorem mt_Maker_garbled_next (T:Txt K mg A):Meth K A.c_Maker "garbled_next" A.f_Maker_garbled_next:=T.w_Maker.me (_,_) (.tail _ (.tail _ (.tail _ (.tail _ (.tail _ (.tail _ (.head _)))))))
theorem mt_Maker_tell_tables (T:Txt K mg A):Meth K A.c_Maker "tell_tables" A.f_Maker_tell_tables:=T.w_Maker.me (_,_) (.tail _ (.tail _ (.tail _ (.tail _ (.tail _ (.tail _ (.tail _ (.head _))))))))
theorem mt_Maker_match_tables (T:Txt K mg A):Meth K A.c_Maker "match_tables" A.f_Maker_match_tables:=T.w_Maker.me (_,_) (.tail _ (.tail _ (.tail _ (.tail _ (.tail _ (.tail _ (.tail _ (.tail _ (.head _)))))))))
theorem mt_Maker_other_is_told (T:Txt K mg A):Meth K A.c_Maker "other_is_told" A.f_Maker_other_is_told:=T.w_Maker.me (_,_) (.tail _ (.tail _ (.tail _ (.tail _ (.tail _ (.tail _ (.tail _ (.tail _ (.tail _ (.head _))))))))))
theorem mt_Maker_tell_label (T:Txt K mg A):Meth K A.c_Maker "tell_label" A.f_Maker_tell_label:=T.w_Maker.me (_,_) (.tail _ (.tail _ (.tail _ (.tail _ (.tail _ (.tail _ (.tail _ (.tail _ (.tail _ (.tail _ (.head _)))))))))))
theorem mt_Taker_keep_label (T:Txt K mg A):Meth K A.c_Taker "keep_label" A.f_Taker_keep_label:=T.w_Taker.me (_,_) (.tail _ (.tail _ (.tail _ (.tail _ (.tail _ (.tail _ (.head _)))))))
theorem mt_Taker_lacks_label (T:Txt K mg A):Meth K A.c_Taker "lacks_label" A.f_Taker_lacks_label:=T.w_Taker.me (_,_) (.tail _ (.tail _ (.tail _ (.tail _ (.tail _ (.tail _ (.tail _ (.head _))))))))
theorem mt_Taker_is_finished (T:Txt K mg A):Meth K A.c_Taker "is_finished" A.f_Taker_is_finished:=T.w_Taker.me (_,_) (.tail _ (.tail _ (.tail _ (.tail _ (.tail _ (.tail _ (.tail _ (.tail _ (.head _)))))))))
theorem mt_Taker_take_stream (T:Txt K mg A):Meth K A.c_Taker "take_stream" A.f_Taker_take_stream:=T.w_Taker.me (_,_) (.tail _ (.tail _ (.tail _ (.tail _ (.tail _ (.tail _ (.tail _ (.tail _ (.tail _ (.head _))))))))))
theorem mt_Taker_do_odd_gate (T:Txt K mg A):Meth K A.c_Taker "do_odd_gate" A.f_Taker_do_odd_gate:=T.w_Taker.me (_,_) (.tail _ (.tail _ (.tail _ (.tail _ (.tail _ (.tail _ (.tail _ (.tail _ (.tail _ (.tail _ (.head _)))))))))))
end
structure Wfs (fs:List (Str×V)) (c s l:Addr) (d:Bytes):Prop where
 c:fs.lookup ("circuit":Str)=some (.ref c)
 s:fs.lookup ("schedule":Str)=some (.ref s)
 l:fs.lookup ("labels":Str)=some (.ref l)
 d:fs.lookup ("delta":Str)=some (.int (ofBytes d:Nat))
 no:∀m∈(["gates_done","all_done","do_even_gates","has_input","has_output","output_label"]:List Str),fs.lookup m=none
def lV (bs:List Bytes):List V:=bs.map fun b=>.int (ofBytes b:Nat)
theorem lV_length (bs:List Bytes):(lV bs).length=bs.length:=List.length_map ..
def All16 (bs:List Bytes):Prop:=∀b∈bs,b.length=16
theorem lV_at {bs:List Bytes} {i:Nat} (h:i < bs.length):atI (lV bs) (i:Int)=some (.int (ofBytes (bs.getD i []):Nat)):=by
 refine atI_nat ?_
 unfold lV
 rw [List.getElem?_map,List.getElem?_eq_getElem h,List.getD_eq_getElem?_getD,List.getElem?_eq_getElem h]
 rfl
theorem All16.get {bs:List Bytes} (h:All16 bs) {i:Nat} (hi:i < bs.length):(bs.getD i []).length=16:=by
 rw [List.getD_eq_getElem?_getD,List.getElem?_eq_getElem hi]
 exact h _ (List.getElem_mem hi)
theorem All16.snoc {bs:List Bytes} (h:All16 bs) {b:Bytes} (hb:b.length=16):All16 (bs++[b]):=fun x hx=>by
 rcases List.mem_append.mp hx with q|q
 ·exact h x q
 ·rw [List.mem_singleton.mp q]
  exact hb
def evRun (d:Bytes):List Hush.Gate->List Bytes->List Bytes
 |[],l=>l
 |g::r,l=>if Hush.odd g.f=true then l else evRun d r (l++[evenZ (l.getD g.a []) (l.getD g.b []) d g.f])
structure WAt (A:Ad) (C:Addr) (H:Hp) (p:Addr) (fs:List (Str×V)) (ca s l:Addr) (c:Hush.Circuit) (d:Bytes):Prop where
 ex:∃dx,Rd H p (.ins C dx fs)
 fs:Wfs fs ca s l d
 circ:CircAt A.c_Circuit H ca c
def spGD (A:Ad) (C:Addr):Sp:=fun vs H Q _=>∃(p ca s l:Addr) (fs:List (Str×V)) (c:Hush.Circuit) (d:Bytes) (ls:List V) (n:Nat),vs=[.ref p]/\WAt A C H p fs ca s l c d/\H l=some (.lst ls)/\ls.length=c.ins+n/\Q (.int (n:Int)) H
theorem sc_GateWalk_gates_done:FnScope ["self"] ["self"] (defScope s_GateWalk_gates_done):=scB
theorem ok_GateWalk_gates_done (T:Txt K mg A) (W:Wk K C A):FnOk P w K mg base CX0 1 A.f_GateWalk_gates_done A.d_GateWalk_gates_done ["self"] (spGD A C):=by
 refine T.GateWalk_gates_done.fn.okA sc_GateWalk_gates_done (fun _ _ _ _ H _ Q E hr h=>?_)
 obtain ⟨p,ca,s,l,fs,c,d,ls,n,rfl,hW,hl,hn,k⟩:=h
 refine ⟨_,(pss_one (ps_ret (pe_op op_sub (pe_callB (lenS K) (by rfl) T.n_len PySem.boot_len (pa_cons (fldK K (pv 0)) pa_nil)) (fldK K (fldK K (pv 0)))))),?_⟩
 obtain ⟨dx,hp⟩:=hW.ex
 obtain ⟨dc,lg,lo,gs,h1,h2,h3,h4,h5⟩:=hW.circ.ex
 refine ⟨_,rfl,p,_,dx,_,_,rfl,hp,W.cl,W.na _ (by simp),hW.fs.l,l,_,rfl,.inl (SqL.of hl),_,rfl,p,_,dx,_,_,rfl,hp,W.cl,W.na _ (by simp),hW.fs.c,ca,_,dc,_,_,rfl,h1.rd,T.c_Circuit.cl,T.c_Circuit.n,cfs_in,_,_,rfl,rfl,?_⟩
 show Q (V.int (((ls.length:Nat):Int) - ((c.na+c.nb:Nat):Int))) H
 have e:((ls.length:Nat):Int) - ((c.na+c.nb:Nat):Int)=(n:Int):=by rw [hn];show ((c.na+c.nb+n:Nat):Int) - _=_;omega
 rw [e]
 exact k
def spAD (A:Ad) (C:Addr):Sp:=fun vs H Q _=>∃(p ca s l:Addr) (fs:List (Str×V)) (c:Hush.Circuit) (d:Bytes) (ls:List V) (n:Nat),vs=[.ref p]/\WAt A C H p fs ca s l c d/\H l=some (.lst ls)/\ls.length=c.ins+n/\Q (.bl (decide (n=c.gates.length))) H
theorem sc_GateWalk_all_done:FnScope ["self"] ["self"] (defScope s_GateWalk_all_done):=scB
theorem ok_GateWalk_all_done (T:Txt K mg A) (W:Wk K C A):FnOk P w K mg base CX0 2 A.f_GateWalk_all_done A.d_GateWalk_all_done ["self"] (spAD A C):=by
 refine T.GateWalk_all_done.fn.okA sc_GateWalk_all_done (fun _ _ _ _ H _ Q E hr h=>?_)
 obtain ⟨p,ca,s,l,fs,c,d,ls,n,rfl,hW,hl,hn,k⟩:=h
 refine ⟨_,(pss_one (ps_ret (pe_cmpR op_eq (pe_meth0R (pv 0) W.cl W.m_gates_done (ok_GateWalk_gates_done T W) (rm hr) T.GateWalk_gates_done.bi .nil pass0) (pe_callB (lenS K) (by rfl) T.n_len PySem.boot_len (pa_cons (fldK K (fldK K (pv 0))) pa_nil)) (nomark _)))),?_⟩
 obtain ⟨dx,hp⟩:=hW.ex
 obtain ⟨dc,lg,lo,gs,h1,h2,h3,h4,h5⟩:=hW.circ.ex
 refine ⟨_,rfl,p,dx,_,rfl,hp,hW.fs.no _ (by simp),p,ca,s,l,fs,c,d,ls,n,rfl,hW,hl,hn,_,rfl,p,_,dx,_,_,rfl,hp,W.cl,W.na _ (by simp),hW.fs.c,ca,_,dc,_,_,rfl,h1.rd,T.c_Circuit.cl,T.c_Circuit.n,cfs_ga,lg,_,rfl,.inl h2.sqL,rfl,?_⟩
 rw [List.length_map,h3]
 have e:decide (V.int (n:Int)=V.int (c.gates.length:Nat))=decide (n=c.gates.length):=by
  by_cases q:n=c.gates.length
  ·rw [q,decide_eq_true rfl,decide_eq_true rfl]
  ·rw [decide_eq_false q,decide_eq_false (fun z=>q (by injection z with z;omega))]
 rw [e]
 exact k
def spHI (A:Ad) (C:Addr):Sp:=fun vs H Q _=>∃(p ca s l:Addr) (fs:List (Str×V)) (c:Hush.Circuit) (d:Bytes) (i:Nat),vs=[.ref p,.int (i:Int)]/\WAt A C H p fs ca s l c d/\Q (.bl (decide (i < c.ins))) H
theorem sc_GateWalk_has_input:FnScope ["self","i"] ["self","i"] (defScope s_GateWalk_has_input):=scB
theorem ok_GateWalk_has_input (T:Txt K mg A) (W:Wk K C A):FnOk P w K mg base CX0 1 A.f_GateWalk_has_input A.d_GateWalk_has_input ["self","i"] (spHI A C):=by
 refine T.GateWalk_has_input.fn.okA sc_GateWalk_has_input (fun _ _ _ _ H _ Q E hr h=>?_)
 obtain ⟨p,ca,s,l,fs,c,d,i,rfl,hW,k⟩:=h
 refine ⟨_,(pss_one (ps_ret (pe_cmpR op_lt (pv 1) (fldK K (fldK K (pv 0))) (nomark _)))),?_⟩
 obtain ⟨dx,hp⟩:=hW.ex
 obtain ⟨dc,lg,lo,gs,h1,h2,h3,h4,h5⟩:=hW.circ.ex
 refine ⟨_,rfl,_,rfl,p,_,dx,_,_,rfl,hp,W.cl,W.na _ (by simp),hW.fs.c,ca,_,dc,_,_,rfl,h1.rd,T.c_Circuit.cl,T.c_Circuit.n,cfs_in,_,_,rfl,rfl,?_⟩
 have e:decide ((i:Int) < ((c.na+c.nb:Nat):Int))=decide (i < c.ins):=by
  have hin:c.ins=c.na+c.nb:=rfl
  by_cases q:i < c.ins
  ·rw [decide_eq_true q,decide_eq_true (by omega)]
  ·rw [decide_eq_false q,decide_eq_false (by omega)]
 show Q (.bl (decide ((i:Int) < ((c.na+c.nb:Nat):Int)))) H
 rw [e]
 exact k
def spHO (A:Ad) (C:Addr):Sp:=fun vs H Q _=>∃(p ca s l:Addr) (fs:List (Str×V)) (c:Hush.Circuit) (d:Bytes) (j:Nat),vs=[.ref p,.int (j:Int)]/\WAt A C H p fs ca s l c d/\Q (.bl (decide (j < c.outs.length))) H
theorem sc_GateWalk_has_output:FnScope ["self","j"] ["self","j"] (defScope s_GateWalk_has_output):=scB
theorem ok_GateWalk_has_output (T:Txt K mg A) (W:Wk K C A):FnOk P w K mg base CX0 1 A.f_GateWalk_has_output A.d_GateWalk_has_output ["self","j"] (spHO A C):=by
 refine T.GateWalk_has_output.fn.okA sc_GateWalk_has_output (fun _ _ _ _ H _ Q E hr h=>?_)
 obtain ⟨p,ca,s,l,fs,c,d,i,rfl,hW,k⟩:=h
 refine ⟨_,(pss_one (ps_ret (pe_cmpR op_lt (pv 1) (pe_callB (lenS K) (by rfl) T.n_len PySem.boot_len (pa_cons (fldK K (fldK K (pv 0))) pa_nil)) (nomark _)))),?_⟩
 obtain ⟨dx,hp⟩:=hW.ex
 obtain ⟨dc,lg,lo,gs,h1,h2,h3,h4,h5⟩:=hW.circ.ex
 refine ⟨_,rfl,_,rfl,p,_,dx,_,_,rfl,hp,W.cl,W.na _ (by simp),hW.fs.c,ca,_,dc,_,_,rfl,h1.rd,T.c_Circuit.cl,T.c_Circuit.n,cfs_ou,lo,_,rfl,.inl h5.sqL,_,_,rfl,rfl,?_⟩
 have e:decide ((i:Int) < (((nV c.outs).length:Nat):Int))=decide (i < c.outs.length):=by
  rw [nV_length]
  by_cases q:i < c.outs.length
  ·rw [decide_eq_true q,decide_eq_true (by omega)]
  ·rw [decide_eq_false q,decide_eq_false (by omega)]
 show Q (.bl (decide ((i:Int) < (((nV c.outs).length:Nat):Int)))) H
 rw [e]
 exact k
def spOL (A:Ad) (C:Addr):Sp:=fun vs H Q _=>∃(p ca s l:Addr) (fs:List (Str×V)) (c:Hush.Circuit) (d:Bytes) (j:Nat) (bs:List Bytes),vs=[.ref p,.int (j:Int)]/\WAt A C H p fs ca s l c d/\j < c.outs.length/\H l=some (.lst (lV bs))/\bs.length=c.ins+c.gates.length/\
 Q (.int (ofBytes (bs.getD (Hushwork.wire c j) []):Nat)) H
theorem sc_GateWalk_output_label:FnScope ["self","j"] ["self","j"] (defScope s_GateWalk_output_label):=scB
theorem wire_lt {c:Hush.Circuit} (wf:WfC c) {j:Nat} (h:j < c.outs.length):Hushwork.wire c j < c.ins+c.gates.length:=by
 unfold Hushwork.wire
 rw [List.getD_eq_getElem?_getD,List.getElem?_eq_getElem h]
 exact wf.out _ (List.getElem_mem h)
theorem outs_at {c:Hush.Circuit} {j:Nat} (h:j < c.outs.length):atI (nV c.outs) (j:Int)=some (.int (Hushwork.wire c j:Nat)):=by
 refine atI_nat ?_
 unfold nV Hushwork.wire
 rw [List.getElem?_map,List.getElem?_eq_getElem h,List.getD_eq_getElem?_getD,List.getElem?_eq_getElem h]
 rfl
theorem ok_GateWalk_output_label (T:Txt K mg A) (W:Wk K C A):FnOk P w K mg base CX0 1 A.f_GateWalk_output_label A.d_GateWalk_output_label ["self","j"] (spOL A C):=by
 refine T.GateWalk_output_label.fn.okA sc_GateWalk_output_label (fun _ _ _ _ H _ Q E hr h=>?_)
 obtain ⟨p,ca,s,l,fs,c,d,j,bs,rfl,hW,hj,hl,hn,k⟩:=h
 refine ⟨_,(pss_one (ps_ret (pe_ix (ixL K) (fldK K (pv 0)) (pe_ix (ixL K) (fldK K (fldK K (pv 0))) (pv 1) (fun _ _=>rfl)) (fun _ _=>rfl)))),?_⟩
 obtain ⟨dx,hp⟩:=hW.ex
 obtain ⟨dc,lg,lo,gs,h1,h2,h3,h4,h5⟩:=hW.circ.ex
 have hw:=wire_lt hW.circ.wf hj
 refine ⟨_,rfl,p,_,dx,_,_,rfl,hp,W.cl,W.na _ (by simp),hW.fs.l,_,rfl,p,_,dx,_,_,rfl,hp,W.cl,W.na _ (by simp),hW.fs.c,ca,_,dc,_,_,rfl,h1.rd,T.c_Circuit.cl,T.c_Circuit.n,cfs_ou,_,rfl,lo,_,_,_,rfl,rfl,h5.sqL,outs_at hj,
  l,_,_,_,rfl,rfl,SqL.of hl,lV_at (by omega),k⟩
def spEG (A:Ad) (C:Addr):Sp:=fun vs H Q _=>∃(p ca s l:Addr) (fs:List (Str×V)) (c:Hush.Circuit) (d:Bytes) (bs:List Bytes) (n:Nat),vs=[.ref p]/\WAt A C H p fs ca s l c d/\d.length=16/\H l=some (.lst (lV bs))/\bs.length=c.ins+n/\n<=c.gates.length/\All16 bs/\
 ∀H':Hp,Keep [l] H H'->H' l=some (.lst (lV (evRun d (c.gates.drop n) bs)))->Q .non H'
theorem sc_GateWalk_do_even_gates:FnScope ["self","f","a","b"] ["self"] (defScope s_GateWalk_do_even_gates):=scB
theorem cut_from {xs:List V} {n:Nat} (h:n<=xs.length):cutV xs (some (n:Int)) none=xs.drop n:=by
 unfold cutV
 rw [HT.sIx_nat,HT.sIx_none,Nat.min_eq_left h,List.take_of_length_le]
 rw [List.length_drop]
 exact Nat.le_refl _
def evN (d:Bytes) (gs:List Hush.Gate) (bs:List Bytes) (i:Nat):List Bytes:=(gs.take i).foldl (fun l g=>l++[evenZ (l.getD g.a []) (l.getD g.b []) d g.f]) bs
theorem evN_succ {d:Bytes} {gs:List Hush.Gate} {bs:List Bytes} {i:Nat} {g:Hush.Gate} (h:gs[i]?=some g):evN d gs bs (i+1)=evN d gs bs i++[evenZ ((evN d gs bs i).getD g.a []) ((evN d gs bs i).getD g.b []) d g.f]:=by
 unfold evN
 rw [take_snoc h,List.foldl_append]
 rfl
theorem evN_len {d:Bytes} {gs:List Hush.Gate} {bs:List Bytes}:∀i,i<=gs.length->(evN d gs bs i).length=bs.length+i
 |0,_=>rfl
 |i+1,h=>by
  rw [evN_succ (List.getElem?_eq_getElem (show i < gs.length by omega)),List.length_append,evN_len i (by omega)]
  rfl
theorem evRun_at {d:Bytes}:∀(gs:List Hush.Gate) (bs:List Bytes) (i:Nat),(∀j g,j < i->gs[j]?=some g->Hush.odd g.f=false)->(i=gs.length\/∃g,gs[i]?=some g/\Hush.odd g.f=true)->evRun d gs bs=evN d gs bs i
 |[],bs,i,_,h=>by
  rcases h with rfl|⟨g,h,_⟩
  ·rfl
  ·simp at h
 |g::r,bs,0,_,h=>by
  rcases h with h|⟨g',h,ho⟩
  ·simp at h
  ·cases h
   show (if Hush.odd g.f=true then bs else _)=_
   rw [if_pos ho]
   rfl
 |g::r,bs,i+1,h1,h=>by
  have h0:=h1 0 g (by omega) rfl
  show (if Hush.odd g.f=true then bs else _)=_
  rw [if_neg (by rw [h0];decide),evRun_at r _ i (fun j g' hj e=>h1 (j+1) g' (by omega) e) (by
   rcases h with h|⟨g',h,ho⟩
   ·exact .inl (by simpa using h)
   ·exact .inr ⟨g',h,ho⟩)]
  rfl
theorem ok_GateWalk_do_even_gates (T:Txt K mg A) (W:Wk K C A):FnOk P w K mg base CX0 2 A.f_GateWalk_do_even_gates A.d_GateWalk_do_even_gates ["self"] (spEG A C):=by
 refine T.GateWalk_do_even_gates.fn.okA sc_GateWalk_do_even_gates (fun _ _ _ _ H _ Q E hr h=>?_)
 obtain ⟨p,ca,s,l,fs,c,d,bs,n,rfl,hW,hd,hl,hn,hng,h16,k⟩:=h
 refine ⟨_,(pss_one (ps_for PassesOwn.never rfl (pi_list (pe_slice (slL K) (fldK K (fldK K (pv 0))) (po_some (pe_meth0R (pv 0) W.cl W.m_gates_done (ok_GateWalk_gates_done T W) (rm hr) T.GateWalk_gates_done.bi .nil pass0)) po_none)) (gTupK K (n:=3) (pgs_cons (pg_name (i:=1) sc_GateWalk_do_even_gates.nd rfl (Or.inl rfl)) (pgs_cons (pg_name (i:=2) sc_GateWalk_do_even_gates.nd rfl (Or.inl rfl)) (pgs_cons (pg_name (i:=3) sc_GateWalk_do_even_gates.nd rfl (Or.inl rfl)) pgs_nil)))) (pss_cons (ps_if (truthK K (pe_call (ok_is_odd T) (rm hr) rfl T.is_odd.mg_ T.is_odd.fn.kp T.is_odd.bi .nil pass0 (pa_cons (pv 1) pa_nil)) (fun _=>rfl)) (pss_one ps_retN) pss_nil)
  (pss_one (ps_expr (pe_bm PySem.F.plainAttrs_list PySem.F.slot_list_append PySem.F.type_list_append mt_append (fldK K (pv 0)) (pa_cons (pe_call (ok_even_label T) (rm hr) rfl T.even_label.mg_ T.even_label.fn.kp T.even_label.bi .nil pass0 (pa_cons (pv 1) (pa_cons (pe_ix (ixL K) (fldK K (pv 0)) (pv 2) (fun _ _=>rfl)) (pa_cons (pe_ix (ixL K) (fldK K (pv 0)) (pv 3) (fun _ _=>rfl)) (pa_cons (fldK K (pv 0)) pa_nil))))) pa_nil))))))),?_⟩
 obtain ⟨dx,hp⟩:=hW.ex
 obtain ⟨dc,lg,lo,gs,h1,h2,h3,h4,h5⟩:=hW.circ.ex
 have wf:=hW.circ.wf
 have nl:¬Imm (HO.lst (lV bs)):=fun z=>z
 refine ⟨_,rfl,p,_,dx,_,_,rfl,hp,W.cl,W.na _ (by simp),hW.fs.c,ca,_,dc,_,_,rfl,h1.rd,T.c_Circuit.cl,T.c_Circuit.n,cfs_ga,_,rfl,p,dx,_,rfl,hp,hW.fs.no _ (by simp),p,ca,s,l,fs,c,d,_,n,rfl,hW,hl,by rw [lV_length];exact hn,_,rfl,
  lg,_,rfl,h2.sqL,fun sl hsl=>⟨sl,rfl,⟨_,SqL.of upd_same⟩,?_⟩⟩
 have hnl:n<=(gs.map V.ref).length:=by rw [List.length_map,h3];exact hng
 have hcut:cutV (gs.map V.ref) (some (n:Int)) none=(gs.drop n).map V.ref:=by rw [cut_from hnl,List.map_drop]
 rw [hcut]
 have hlsl:l≠sl:=ne_of_none hl hsl
 have k0:Keep [l] H (upd H sl (.lst ((gs.drop n).map V.ref))):=Keep.new hsl
 have rdk:∀{H':Hp},Keep [l] H H'->Rd H' p (.ins C dx fs):=fun {H'} kk=>by
  rcases hp with z|⟨o,z⟩
  ·exact .inl (kk.at_ z (by intro q;rw [List.mem_singleton.mp q,hl] at z;cases z))
  ·exact .inr ⟨o,kk.frz z⟩
 refine for_list (K:=K) (a:=sl) (xs:=(gs.drop n).map V.ref) (fun i σ H'=>∃v1 v2 v3,σ=[some (.ref p),v1,v2,v3]/\Keep [l] H H'/\H' sl=some (.lst ((gs.drop n).map V.ref))/\H' l=some (.lst (lV (evN d (c.gates.drop n) bs i)))/\All16 (evN d (c.gates.drop n) bs i)/\∀j g,j < i->(c.gates.drop n)[j]?=some g->Hush.odd g.f=false)
  ⟨none,none,none,rfl,k0,upd_same,by rw [upd_ne hlsl];exact hl,h16,fun j g hj=>absurd hj (Nat.not_lt_zero j)⟩ (fun i σ H' _ ⟨_,_,_,_,_,h,_⟩=>SqL.of h) ?_ ?_
 ·rintro i u σ H' hu ⟨v1,v2,v3,rfl,kk,hsl',hl',a16,hev⟩
  obtain ⟨q,hq,rfl⟩:=refs_get hu
  rw [List.getElem?_drop] at hq
  have hi:n+i < c.gates.length:=by rw [<-h3];exact (List.getElem?_eq_some_iff.mp hq).1
  obtain ⟨g,hg⟩:∃g,c.gates[n+i]?=some g:=⟨_,List.getElem?_eq_getElem hi⟩
  have hg':(c.gates.drop n)[i]?=some g:=by rw [List.getElem?_drop];exact hg
  have ht:=kk.tup (h4 _ q g hq hg)
  obtain ⟨w1,w2,w3⟩:=wf.gate _ g hg
  have hlen:(evN d (c.gates.drop n) bs i).length=c.ins+n+i:=by rw [evN_len i (by rw [List.length_drop];omega),hn]
  refine ⟨q,_,rfl,SqT.of ht,rfl,_,_,rfl,_,_,rfl,_,_,rfl,rfl,?_⟩
  refine ⟨_,rfl,g.f,rfl,w1,_,rfl,iteB (fun ho=>?_) fun ho=>?_⟩
  ·exact k H' kk (by rw [hl',evRun_at (c.gates.drop n) bs i hev (.inr ⟨g,hg',ho⟩)])
  ·have rp:=rdk kk
   refine ⟨_,rfl,p,_,dx,_,_,rfl,rp,W.cl,W.na _ (by simp),hW.fs.l,.inl ⟨rfl,_,SqL.of hl'⟩,_,rfl,?_⟩
   refine ⟨_,rfl,p,_,dx,_,_,rfl,rp,W.cl,W.na _ (by simp),hW.fs.l,_,rfl,l,_,_,_,rfl,rfl,SqL.of hl',lV_at (by omega),?_⟩
   refine ⟨_,rfl,p,_,dx,_,_,rfl,rp,W.cl,W.na _ (by simp),hW.fs.l,_,rfl,l,_,_,_,rfl,rfl,SqL.of hl',lV_at (by omega),?_⟩
   refine ⟨_,rfl,p,_,dx,_,_,rfl,rp,W.cl,W.na _ (by simp),hW.fs.d,g.f,_,_,d,rfl,w1,ho,a16.get (by omega),a16.get (by omega),hd,?_⟩
   have hsz:(lV (evN d (c.gates.drop n) bs i)).length < sizeLine:=by
    have:=wf.ng
    have:=wf.na
    have:=wf.nb
    have hin:c.ins=c.na+c.nb:=rfl
    exact sz (m:=100) (by rw [lV_length];omega)
   refine ⟨l,_,_,rfl,rfl,hl',hsz,_,_,_,rfl,kk.trans (Keep.set hl' (fun z=>z) (by simp)),?_,?_,?_,?_⟩
   ·rw [upd_ne hlsl.symm]
    exact hsl'
   ·rw [upd_same,evN_succ hg']
    unfold lV
    rw [List.map_append]
    rfl
   ·rw [evN_succ hg']
    exact a16.snoc (length_evenZ (a16.get (by omega)) (a16.get (by omega)) hd _)
   ·intro j g2 hj e
    by_cases hji:j < i
    ·exact hev j g2 hji e
    ·have:j=i:=by omega
     rw [this,hg'] at e
     cases e
     exact ho
 ·rintro σ H' ⟨v1,v2,v3,rfl,kk,hsl',hl',a16,hev⟩
  rw [List.length_map,List.length_drop,h3] at hl' hev
  exact k H' kk (by rw [hl',evRun_at (c.gates.drop n) bs _ hev (.inl (by rw [List.length_drop]))])
theorem numbered_get {c:Hush.Circuit} {i:Nat} {g:Hush.Gate} (h:c.gates[i]?=some g):c.numbered[i]?=some (i,g):=by
 have hl:=(List.getElem?_eq_some_iff.mp h).1
 unfold Hush.Circuit.numbered
 rw [List.getElem?_zip_eq_some]
 exact ⟨List.getElem?_range hl,h⟩
theorem numbered_len (c:Hush.Circuit):c.numbered.length=c.gates.length:=by
 unfold Hush.Circuit.numbered
 rw [List.length_zip,List.length_range,Nat.min_self]
theorem numbered_drop {c:Hush.Circuit} {i:Nat} {g:Hush.Gate} (h:c.gates[i]?=some g):c.numbered.drop i=(i,g)::c.numbered.drop (i+1):=by
 have hn:=numbered_get h
 obtain ⟨hl,e⟩:=List.getElem?_eq_some_iff.mp hn
 rw [List.drop_eq_getElem_cons hl,e]
theorem numbered_end {c:Hush.Circuit}:c.numbered.drop c.gates.length=[]:=by
 rw [<-numbered_len]
 exact List.drop_length
def zN (c:Hush.Circuit) (key seed:Bytes) (i:Nat):List Bytes:=
 (c.numbered.take i).foldl (fun (l:List Bytes) (x:Nat×Hush.Gate)=>l++[Hush.zero (l.getD x.2.a []) (l.getD x.2.b []) (Hush.difference seed) key x.2.f x.1]) ((List.range c.ins).map (Hush.inputZero seed))
section
variable {c:Hush.Circuit} {key seed:Bytes}
theorem zN_succ {i:Nat} {g:Hush.Gate} (h:c.gates[i]?=some g):zN c key seed (i+1)=zN c key seed i++[Hush.zero ((zN c key seed i).getD g.a []) ((zN c key seed i).getD g.b []) (Hush.difference seed) key g.f i]:=by
 unfold zN
 rw [take_snoc (numbered_get h),List.foldl_append]
 rfl
theorem zN_all:zN c key seed c.gates.length=Hush.zeros c key seed:=by
 unfold zN Hush.zeros
 rw [<-numbered_len,List.take_length]
theorem zN_len:∀i,i<=c.gates.length->(zN c key seed i).length=c.ins+i
 |0,_=>by
  unfold zN
  simp
 |i+1,h=>by
  rw [zN_succ (List.getElem?_eq_getElem (show i < c.gates.length by omega)),List.length_append,zN_len i (by omega)]
  rfl
theorem aes_cons (hs:seed.length=16) (x:Bytes):∃d r,Hush.aes seed x=d::r:=by
 have h:=HM.length_aes (x:=x) hs
 cases e:Hush.aes seed x with
 |nil=>rw [e] at h;cases h
 |cons d r=>exact ⟨d,r,rfl⟩
theorem length_diff (hs:seed.length=16):(Hush.difference seed).length=16:=by
 have h:=HM.length_aes (x:=Hush.none16) hs
 obtain ⟨d,r,e⟩:=aes_cons hs Hush.none16
 unfold Hush.difference
 rw [e] at h ⊢
 exact h
theorem ofBytes_diff (hs:seed.length=16):ofBytes (Hush.difference seed)=ofBytes (Hush.aes seed Hush.none16) / 2*2+1:=by
 obtain ⟨d,r,e⟩:=aes_cons hs Hush.none16
 unfold Hush.difference
 rw [e]
 show (UInt8.ofNat (d.toNat / 2*2+1)).toNat+256*ofBytes r=(d.toNat+256*ofBytes r) / 2*2+1
 have hd:=d.toNat_lt
 rw [UInt8.toNat_ofNat',Nat.mod_eq_of_lt (by omega)]
 omega
theorem zN_16 (wf:WfC c) (hk:key.length=16) (hs:seed.length=16):∀i,i<=c.gates.length->All16 (zN c key seed i)
 |0,_=>fun b hb=>by
  unfold zN at hb
  simp only [List.take_zero,List.foldl_nil,List.mem_map] at hb
  obtain ⟨j,_,rfl⟩:=hb
  exact HM.length_aes hs
 |i+1,h=>by
  have hg:=List.getElem?_eq_getElem (show i < c.gates.length by omega)
  have ih:=zN_16 wf hk hs i (by omega)
  have hl:=zN_len (key:=key) (seed:=seed) i (show i<=c.gates.length by omega)
  obtain ⟨w1,w2,w3⟩:=wf.gate i _ hg
  rw [zN_succ hg]
  exact ih.snoc (len_zero _ _ (ih.get (by omega)) (ih.get (by omega)) (length_diff hs) hk)
theorem zN_pre:∀(j i:Nat),i<=j->j<=c.gates.length->∃r,zN c key seed j=zN c key seed i++r
 |0,i,h,_=>⟨[],by rw [show i=0 by omega,List.append_nil]⟩
 |j+1,i,h,hj=>by
  by_cases e:i=j+1
  ·exact ⟨[],by rw [e,List.append_nil]⟩
  ·obtain ⟨r,hr⟩:=zN_pre j i (by omega) (by omega)
   rw [zN_succ (List.getElem?_eq_getElem (show j < c.gates.length by omega)),hr,List.append_assoc]
   exact ⟨_,rfl⟩
theorem zeros_get {i w:Nat} (hi:i<=c.gates.length) (hw:w < c.ins+i):(Hush.zeros c key seed).getD w []=(zN c key seed i).getD w []:=by
 obtain ⟨r,hr⟩:=zN_pre (key:=key) (seed:=seed) c.gates.length i hi (Nat.le_refl _)
 rw [<-zN_all,hr,List.getD_eq_getElem?_getD,List.getElem?_append_left (by rw [zN_len i hi];exact hw),List.getD_eq_getElem?_getD]
end
def nx (c:Hush.Circuit) (n:Nat):Nat:=n+((c.gates.drop n).takeWhile fun g=>!Hush.odd g.f).length
theorem tw_prop (gs:List Hush.Gate):(∀j g,j < (gs.takeWhile fun g=>!Hush.odd g.f).length->gs[j]?=some g->Hush.odd g.f=false)/\
  ((gs.takeWhile fun g=>!Hush.odd g.f).length=gs.length\/∃g,gs[(gs.takeWhile fun g=>!Hush.odd g.f).length]?=some g/\Hush.odd g.f=true):=by
 induction gs with
 |nil=>exact ⟨fun j g h=>absurd h (Nat.not_lt_zero j),.inl rfl⟩
 |cons x r ih=>
  rw [List.takeWhile_cons]
  cases ho:Hush.odd x.f with
  |true=>exact ⟨fun j g h=>absurd h (Nat.not_lt_zero j),.inr ⟨x,rfl,ho⟩⟩
  |false=>
   refine ⟨fun j g h e=>?_,?_⟩
   ·cases j with
    |zero=>cases e;exact ho
    |succ j=>exact ih.1 j g (by simpa using h) e
   ·rcases ih.2 with h|⟨g,h,h2⟩
    ·exact .inl (by simpa using h)
    ·exact .inr ⟨g,by simpa using h,h2⟩
section
variable {c:Hush.Circuit} {n:Nat}
theorem nx_le (h:n<=c.gates.length):n<=nx c n/\nx c n<=c.gates.length:=by
 have:((c.gates.drop n).takeWhile fun g=>!Hush.odd g.f).length<=(c.gates.drop n).length:=List.Sublist.length_le (List.takeWhile_sublist _)
 rw [List.length_drop] at this
 unfold nx
 omega
theorem nx_even {j:Nat} {g:Hush.Gate} (h1:n<=j) (h2:j < nx c n) (h:c.gates[j]?=some g):Hush.odd g.f=false:=by
 unfold nx at h2
 refine (tw_prop (c.gates.drop n)).1 (j - n) g (by omega) ?_
 rw [List.getElem?_drop,show n+(j - n)=j by omega]
 exact h
theorem nx_odd (h:n<=c.gates.length):nx c n=c.gates.length\/∃g,c.gates[nx c n]?=some g/\Hush.odd g.f=true:=by
 rcases (tw_prop (c.gates.drop n)).2 with e|⟨g,e,ho⟩
 ·rw [List.length_drop] at e
  exact .inl (by unfold nx;omega)
 ·rw [List.getElem?_drop] at e
  exact .inr ⟨g,e,ho⟩
theorem nx_fix {g:Hush.Gate} (h:c.gates[n]?=some g) (ho:Hush.odd g.f=true):nx c n=n:=by
 have:=nx_le (show n<=c.gates.length by have:=(List.getElem?_eq_some_iff.mp h).1;omega)
 by_cases e:nx c n=n
 ·exact e
 ·rw [nx_even (Nat.le_refl n) (show n < nx c n by omega) h] at ho
  cases ho
theorem evN_zN {key seed:Bytes} (hn:n<=c.gates.length):∀i,n+i<=nx c n->evN (Hush.difference seed) (c.gates.drop n) (zN c key seed n) i=zN c key seed (n+i)
 |0,_=>rfl
 |i+1,h=>by
  have hle:=(nx_le hn).2
  have hg:=List.getElem?_eq_getElem (show n+i < c.gates.length by omega)
  have ho:=nx_even (Nat.le_add_right n i) (show n+i < nx c n by omega) hg
  have hg':(c.gates.drop n)[i]?=some c.gates[n+i]:=by rw [List.getElem?_drop];exact hg
  rw [evN_succ hg',evN_zN hn i (by omega),<-Nat.add_assoc,zN_succ hg,zero_even ho]
theorem evRun_zN {key seed:Bytes} (hn:n<=c.gates.length):evRun (Hush.difference seed) (c.gates.drop n) (zN c key seed n)=zN c key seed (nx c n):=by
 have hle:=nx_le hn
 have h1:∀j g,j < nx c n - n->(c.gates.drop n)[j]?=some g->Hush.odd g.f=false:=fun j g hj e=>by
  rw [List.getElem?_drop] at e
  exact nx_even (Nat.le_add_right n j) (by omega) e
 have h2:nx c n - n=(c.gates.drop n).length\/∃g,(c.gates.drop n)[nx c n - n]?=some g/\Hush.odd g.f=true:=by
  rcases nx_odd hn with e|⟨g,e,ho⟩
  ·exact .inl (by rw [List.length_drop];omega)
  ·exact .inr ⟨g,by rw [List.getElem?_drop,show n+(nx c n - n)=nx c n by omega];exact e,ho⟩
 rw [evRun_at (c.gates.drop n) _ (nx c n - n) h1 h2,evN_zN hn _ (by omega),show n+(nx c n - n)=nx c n by omega]
variable {x:Hushwork.Maker}
theorem tables_even (hc:x.circ=c) {most:Nat}:∀(k:Nat) (n:Nat),k=nx c n - n->n<=c.gates.length->x.tables (c.numbered.drop n) most n=x.tables (c.numbered.drop (nx c n)) most (nx c n)
 |0,n,hk,hn=>by rw [show nx c n=n by have:=(nx_le hn).1;omega]
 |k+1,n,hk,hn=>by
  have hle:=nx_le hn
  have hg:=List.getElem?_eq_getElem (show n < c.gates.length by omega)
  have ho:=nx_even (Nat.le_refl n) (show n < nx c n by omega) hg
  have e1:nx c (n+1)=nx c n:=by
   have h1:c.gates.drop n=c.gates[n]::c.gates.drop (n+1):=List.drop_eq_getElem_cons (by omega)
   unfold nx
   rw [h1,List.takeWhile_cons,ho]
   show n+1+_=n+(_+1)
   omega
  rw [numbered_drop hg]
  show (if Hush.odd c.gates[n].f=false then x.tables (c.numbered.drop (n+1)) most (n+1) else _)=_
  rw [if_pos ho,tables_even hc k (n+1) (by omega) (by omega),e1]
theorem same_even {s:Bytes} {k0:Nat}:∀(k:Nat) (n:Nat),k=nx c n - n->n<=c.gates.length->x.same (c.numbered.drop n) s n k0=x.same (c.numbered.drop (nx c n)) s (nx c n) k0
 |0,n,hk,hn=>by rw [show nx c n=n by have:=(nx_le hn).1;omega]
 |k+1,n,hk,hn=>by
  have hle:=nx_le hn
  have hg:=List.getElem?_eq_getElem (show n < c.gates.length by omega)
  have ho:=nx_even (Nat.le_refl n) (show n < nx c n by omega) hg
  have e1:nx c (n+1)=nx c n:=by
   have h1:c.gates.drop n=c.gates[n]::c.gates.drop (n+1):=List.drop_eq_getElem_cons (by omega)
   unfold nx
   rw [h1,List.takeWhile_cons,ho]
   show n+1+_=n+(_+1)
   omega
  rw [numbered_drop hg]
  show (if Hush.odd c.gates[n].f=false then x.same (c.numbered.drop (n+1)) s (n+1) k0 else _)=_
  rw [if_pos ho,same_even k (n+1) (by omega) (by omega),e1]
end
def gfs (c s:Addr) (l d:V):List (Str×V):=[("circuit",.ref c),("schedule",.ref s),("labels",l),("delta",d)]
theorem gfs_put (c s:Addr) (l d:V):putF "delta" d (putF "labels" l (putF "schedule" (.ref s) (putF "circuit" (.ref c) [])))=gfs c s l d:=by
 simp only [putF,show ¬("circuit":Str)="schedule" by decide+kernel,show ¬("circuit":Str)="labels" by decide+kernel,show ¬("circuit":Str)="delta" by decide+kernel,show ¬("schedule":Str)="labels" by decide+kernel,show ¬("schedule":Str)="delta" by decide+kernel,show ¬("labels":Str)="delta" by decide+kernel,if_false]
 rfl
def mfs (c s l t:Addr) (d:Bytes):List (Str×V):=gfs c s (.ref l) (.int (ofBytes d:Nat))++([("inputs_told",.ref t)]:List (Str×V))
theorem mfs_put (c s l t:Addr) (d:Bytes):putF "inputs_told" (.ref t) (gfs c s (.ref l) (.int (ofBytes d:Nat)))=mfs c s l t d:=by
 unfold gfs mfs
 simp only [putF,show ¬("circuit":Str)="inputs_told" by decide+kernel,show ¬("schedule":Str)="inputs_told" by decide+kernel,show ¬("labels":Str)="inputs_told" by decide+kernel,show ¬("delta":Str)="inputs_told" by decide+kernel,if_false]
 rfl
theorem gfs_look (c s:Addr) (l d:V) (r:List (Str×V)):((gfs c s l d++r).lookup ("circuit":Str)=some (.ref c))/\((gfs c s l d++r).lookup ("schedule":Str)=some (.ref s))/\((gfs c s l d++r).lookup ("labels":Str)=some l)/\((gfs c s l d++r).lookup ("delta":Str)=some d):=by
 unfold gfs
 refine ⟨rfl,?_,?_,?_⟩
 ·simp only [List.cons_append,List.lookup_cons,show (("schedule":Str) == "circuit")=false by decide+kernel]
  rfl
 ·simp only [List.cons_append,List.lookup_cons,show (("labels":Str) == "circuit")=false by decide+kernel,show (("labels":Str) == "schedule")=false by decide+kernel]
  rfl
 ·simp only [List.cons_append,List.lookup_cons,show (("delta":Str) == "circuit")=false by decide+kernel,show (("delta":Str) == "schedule")=false by decide+kernel,show (("delta":Str) == "labels")=false by decide+kernel]
  rfl
theorem gfs_no {c s:Addr} {l d:V} {r:List (Str×V)} {m:Str} (h:(["circuit","schedule","labels","delta"]:List Str).all (fun x=>!(m == x))=true):(gfs c s l d++r).lookup m=r.lookup m:=by
 simp only [List.all_cons,List.all_nil,Bool.and_true,Bool.and_eq_true,Bool.not_eq_true'] at h
 obtain ⟨h1,h2,h3,h4⟩:=h
 unfold gfs
 simp only [List.cons_append,List.lookup_cons,h1,h2,h3,h4]
 rfl
theorem mfs_w (c s l t:Addr) (d:Bytes):Wfs (mfs c s l t d) c s l d:=by
 obtain ⟨h1,h2,h3,h4⟩:=gfs_look c s (.ref l) (.int (ofBytes d:Nat)) [("inputs_told",.ref t)]
 refine ⟨h1,h2,h3,h4,fun m hm=>?_⟩
 unfold mfs
 simp only [List.mem_cons,List.not_mem_nil,or_false] at hm
 rcases hm with rfl|rfl|rfl|rfl|rfl|rfl <;> rw [gfs_no (by decide+kernel)] <;> rfl
theorem mfs_t (c s l t:Addr) (d:Bytes):(mfs c s l t d).lookup ("inputs_told":Str)=some (.ref t):=by
 unfold mfs
 rw [gfs_no (by decide+kernel)]
 rfl
theorem mfs_no (c s l t:Addr) (d:Bytes) {m:Str} (h:(["circuit","schedule","labels","delta","inputs_told"]:List Str).all (fun x=>!(m == x))=true):(mfs c s l t d).lookup m=none:=by
 simp only [List.all_cons,List.all_nil,Bool.and_true,Bool.and_eq_true,Bool.not_eq_true'] at h
 obtain ⟨h1,h2,h3,h4,h5⟩:=h
 unfold mfs
 rw [gfs_no (by simp only [List.all_cons,List.all_nil,Bool.and_true,Bool.and_eq_true,Bool.not_eq_true'];exact ⟨h1,h2,h3,h4⟩)]
 simp only [List.lookup_cons,h5]
 rfl
def toldN:Option Bool->Nat
 |none=>0
 |some false=>1
 |some true=>2
def tV (l:List (Option Bool)):List V:=l.map fun o=>.int (toldN o:Nat)
theorem tV_length (l:List (Option Bool)):(tV l).length=l.length:=List.length_map ..
def spGW (K:W.Frag) (A:Ad) (C:Addr):Sp:=fun vs H Q _=>∃(p dx c ak:Addr) (l d:V) (key:Bytes),vs=[.ref p,.ref c,.ref ak,l,d]/\H p=some (.ins C dx [])/\SqL K H ak (bV key)/\ak≠p/\key.length=16/\
 ∀(H':Hp) (s:Addr),Keep [p] H H'->H' p=some (.ins C dx (gfs c s l d))->SchedAt H' s key->Q .non H'
theorem sc_GateWalk_init:FnScope ["self","circuit","key","labels","delta"] ["self","circuit","key","labels","delta"] (defScope s_GateWalk_init):=scB
theorem ok_GateWalk_init (T:Txt K mg A) (W:Wk K C A):FnOk P w K mg base CX0 3 A.f_GateWalk_init A.d_GateWalk_init ["self","circuit","key","labels","delta"] (spGW K A C):=by
 refine T.GateWalk_init.fn.okA sc_GateWalk_init (fun _ _ _ _ H _ Q E hr h=>?_)
 obtain ⟨p,dx,c,ak,l,d,key,rfl,hp,ha,hne,hk,k⟩:=h
 refine ⟨_,(pss_cons (ps_fld (pv 0) (pv 1) rfl)
  (pss_cons (ps_fld (pv 0) (pe_call (ok_schedule_of T) (rm hr) rfl T.schedule_of.mg_ T.schedule_of.fn.kp T.schedule_of.bi .nil pass0 (pa_cons (pv 2) pa_nil)) rfl)
  (pss_cons (ps_fld (pv 0) (pv 3) rfl)
  (pss_one (ps_fld (pv 0) (pv 4) rfl))))),?_⟩
 have cl:=W.cl
 have ni:∀{fs:List (Str×V)},¬Imm (HO.ins C dx fs):=fun {fs} z=>z
 have ha1:SqL K (upd H p (.ins C dx (putF "circuit" (.ref c) []))) ak (bV key):=by
  rcases ha with (z|⟨o,z⟩)|z
  ·exact .inl (.inl (by rw [upd_ne hne];exact z))
  ·exact .inl (.inr ⟨o,by rw [upd_ne hne];exact z⟩)
  ·exact .inr z
 refine ⟨_,rfl,_,rfl,p,_,dx,_,rfl,hp,cl,W.na _ (by simp),(by show 0 < 1000;decide),?_⟩
 refine ⟨_,rfl,ak,key,rfl,ha1,hk,fun H1 sa s1 hsa hS=>?_⟩
 have hp1:=s1 _ _ upd_same
 refine ⟨_,rfl,p,_,dx,_,rfl,hp1,cl,W.na _ (by simp),(by show 1 < 1000;decide),?_⟩
 refine ⟨_,rfl,_,rfl,p,_,dx,_,rfl,upd_same,cl,W.na _ (by simp),(by show 2 < 1000;decide),?_⟩
 refine ⟨_,rfl,_,rfl,p,_,dx,_,rfl,upd_same,cl,W.na _ (by simp),(by show 3 < 1000;decide),?_⟩
 rw [upd_upd,upd_upd,gfs_put]
 have k1:Keep [p] H H1:=(Keep.set hp ni (by simp)).trans (s1.keep)
 exact k _ sa (k1.trans (Keep.set hp1 ni (by simp))) upd_same (hS.keep (Keep.set hp1 ni (by simp:p∈[p])))
def spMInit (K:W.Frag) (A:Ad):Sp:=fun vs H Q _=>∃(p dx ca ak as_:Addr) (c:Hush.Circuit) (key seed:Bytes),vs=[.ref p,.ref ca,.ref ak,.ref as_]/\H p=some (.ins A.c_Maker dx [])/\CircAt A.c_Circuit H ca c/\SqL K H ak (bV key)/\ak≠p/\SqL K H as_ (bV seed)/\key.length=16/\seed.length=16/\
 ∀(H':Hp) (s l t:Addr),Keep [p] H H'->H' p=some (.ins A.c_Maker dx (mfs ca s l t (Hush.difference seed)))->SchedAt H' s key->H' l=some (.lst (lV (zN c key seed 0)))->H' t=some (.lst (tV (List.replicate c.ins none)))->H l=none->H t=none->l≠t->Q .non H'
theorem sc_Maker_init:FnScope ["self","circuit","key","seed","seed_schedule","delta","zeros","i"] ["self","circuit","key","seed"] (defScope s_Maker_init):=scB
theorem zN_zero_get {c:Hush.Circuit} {key seed:Bytes} {i:Nat} (h:i < c.ins):(lV (zN c key seed 0))[i]?=some (.int (ofBytes (Hush.aes seed (Hush.tweak (i+1))):Nat)):=by
 unfold lV zN
 rw [List.take_zero,List.foldl_nil,List.getElem?_map,List.getElem?_map,List.getElem?_range h]
 rfl
theorem ok_Maker_init (T:Txt K mg A):FnOk P w K mg base CX0 4 A.f_Maker_init A.d_Maker_init ["self","circuit","key","seed"] (spMInit K A):=by
 refine T.Maker_init.fn.okA sc_Maker_init (fun _ _ _ _ H _ Q E hr h=>?_)
 obtain ⟨p,dx,ca,ak,as_,c,key,seed,rfl,hp,hC,hak,hne,has,hk,hs,k⟩:=h
 have W:=wkM T
 refine ⟨_,(pss_cons (ps_asg (pe_call (ok_schedule_of T) (rm hr) rfl T.schedule_of.mg_ T.schedule_of.fn.kp T.schedule_of.bi .nil pass0 (pa_cons (pv 3) pa_nil)) (pgN (i:=4) sc_Maker_init.nd rfl (Or.inr rfl)))
  (pss_cons (ps_asg (pe_op op_or (pe_call (ok_encrypt T) (rm hr) rfl T.encrypt.mg_ T.encrypt.fn.kp T.encrypt.bi .nil pass0 (pa_cons (pv 4) (pa_cons pe_int pa_nil))) pe_int) (pgN (i:=5) sc_Maker_init.nd rfl (Or.inl rfl)))
  (pss_cons (ps_setLc (i:=6) (own:=[("i",7)]) rfl sc_Maker_init.nd rfl rfl (sw_true rfl rfl rfl rfl) (pi_range1 rfl T.n_range (pa_cons (fldK K (pv 1)) pa_nil)) (blkOk_by rfl) (fun _ _ _ _ _=>(pg_name (i:=7) sc_Maker_init.nd rfl (Or.inl rfl))) (fun _ _ _ _ _=>pts_nil) (fun _ _ _ _ _=>(pe_call (ok_encrypt T) (rm hr) rfl T.encrypt.mg_ T.encrypt.fn.kp T.encrypt.bi .nil pass0 (pa_cons (pv 4) (pa_cons (pe_op op_add (pv 7) pe_int) pa_nil)))))
  (pss_cons (ps_expr (pe_cmeth rfl T.mg_GateWalk T.ga_GateWalk T.rd_GateWalk T.fi_GateWalk T.GateWalk_init.fn.kp (ok_GateWalk_init T W) (rm hr) T.GateWalk_init.bi .nil pass0 (pa_cons (pv 0) (pa_cons (pv 1) (pa_cons (pv 2) (pa_cons (pv 6) (pa_cons (pv 5) pa_nil)))))))
  (pss_one (ps_fld (pv 0) (pe_op op_rep (pe_lst (pa_cons (pe_gint rfl T.i_NEITHER_TOLD) pa_nil)) (fldK K (pv 1))) rfl)))))),?_⟩
 have cl:=T.c_Maker.cl
 have ni:∀{fs:List (Str×V)},¬Imm (HO.ins A.c_Maker dx fs):=fun {fs} z=>z
 have wf:=hC.wf
 obtain ⟨dc,lg,lo,gs,h1,h2,h3,h4,h5⟩:=hC.ex
 have hins:((c.na+c.nb:Nat):Int)=((c.ins:Nat):Int):=rfl
 have hb:c.ins<=32:=by have:=wf.na;have:=wf.nb;show c.na+c.nb<=32;omega
 refine ⟨_,rfl,as_,seed,rfl,has,hs,fun H1 ss s1 hss hS σ' es=>?_⟩
 obtain rfl:σ'=[some (.ref p),some (.ref ca),some (.ref ak),some (.ref as_),some (.ref ss),none,none,none]:=es
 have z0:(0:Int)=((ofBytes Hush.none16:Nat):Int):=by rw [HM.ofBytes_none16];rfl
 refine ⟨_,rfl,ss,seed,Hush.none16,?_,hS,HM.length_none16,fun H2 s2=>⟨_,_,rfl,rfl,fun σ' es=>?_⟩⟩
 ·show [V.ref ss,V.int 0]=_
  rw [z0]
 dsimp only at es
 rw [bo1,<-ofBytes_diff hs] at es
 obtain rfl:σ'=[some (.ref p),some (.ref ca),some (.ref ak),some (.ref as_),some (.ref ss),some (.int (ofBytes (Hush.difference seed):Nat)),none,none]:=es
 have s12:=s1.trans s2
 have hS2:=hS.same s2
 refine ⟨_,rfl,ca,_,dc,_,_,rfl,(Same.fz s12 h1).rd,T.c_Circuit.cl,T.c_Circuit.n,cfs_in,_,rfl,by omega,by omega,fun L hL=>?_⟩
 have hzl:(lV (zN c key seed 0)).length=c.ins:=by rw [lV_length,zN_len 0 (Nat.zero_le _)];rfl
 refine lc_range (fun i H'=>Same H2 H'/\H' L=some (.lst ((lV (zN c key seed 0)).take i))) ⟨Same.new hL,upd_same⟩ ?_ ?_
 ·rintro i H' hi ⟨s3,hL'⟩
  have hi':i < c.ins:=hi
  have et:(0+(i:Int))+1=((ofBytes (Hush.tweak (i+1)):Nat):Int):=by
   rw [HM.ofBytes_tweak,Nat.mod_eq_of_lt (by omega)]
   omega
  refine ⟨rfl,_,rfl,_,rfl,_,_,rfl,rfl,ss,seed,Hush.tweak (i+1),?_,hS2.same s3,HM.length_tweak _,fun H4 s4=>⟨_,s4 _ _ hL',?_,Same.young (s3.trans s4) hL,?_⟩⟩
  ·show [V.ref ss,V.int (0+(i:Int)+1)]=_
   rw [et]
  ·exact sz (m:=32) (by rw [List.length_take];omega)
  ·rw [upd_same,take_snoc (zN_zero_get hi')]
 ·rintro H' ⟨s3,hL'⟩
  have hL2:H' L=some (.lst (lV (zN c key seed 0))):=by
   rw [hL',List.take_of_length_le]
   rw [hzl]
   exact Nat.le_refl _
  have s13:=s12.trans s3
  have hp3:=s13 _ _ hp
  have hLp:L≠p:=fun z=>by rw [z,s12 _ _ hp] at hL;cases hL
  refine ⟨_,rfl,_,rfl,_,rfl,_,rfl,_,rfl,p,dx,ca,ak,_,_,key,rfl,hp3,s13.seq hak,hne,hk,fun H4 sa k4 hp4 hS4=>?_⟩
  have hC4:=(hC.same s13).keep k4
  obtain ⟨dc4,lg4,lo4,gs4,g1,g2,g3,g4,g5⟩:=hC4.ex
  have hL4:=k4.at_ hL2 (by simp;exact hLp)
  refine ⟨by show 1<=sizeLine;decide,fun q hq=>?_⟩
  have kq:Keep [p] H4 (upd H4 q (.lst [.int 0])):=Keep.new hq
  refine ⟨_,rfl,ca,_,dc4,_,_,rfl,(kq.fz g1).rd,T.c_Circuit.cl,T.c_Circuit.n,cfs_in,q,_,_,rfl,rfl,upd_same,by omega,by omega,?_,fun t ht=>?_⟩
  ·show 1*((c.na+c.nb:Nat):Int).toNat<=sizeLine
   rw [hins,sizeLine_eq]
   omega
  have kt:=Keep.new (F:=[p]) ht (o:=.lst (List.replicate ((c.na+c.nb:Nat):Int).toNat [V.int 0]).flatten)
  have hpq:p≠q:=ne_of_none hp4 hq
  have hpt:p≠t:=fun z=>by rw [<-z,upd_ne hpq,hp4] at ht;cases ht
  have hqt:q≠t:=(upd_none ht).2.symm
  refine ⟨_,rfl,p,_,dx,_,rfl,by rw [upd_ne hpt,upd_ne hpq];exact hp4,cl,T.c_Maker.n,(by show 4 < 1000;decide),?_⟩
  have kk:Keep [p] H H4:=(s13.keep).trans k4
  have hp5:(upd (upd H4 q (.lst [.int 0])) t (.lst (List.replicate ((c.na+c.nb:Nat):Int).toNat [V.int 0]).flatten)) p=some (.ins A.c_Maker dx (gfs ca sa (.ref L) (.int (ofBytes (Hush.difference seed):Nat)))):=by rw [upd_ne hpt,upd_ne hpq];exact hp4
  have k6:=(kq.trans kt).trans (Keep.set (F:=[p]) (o:=.ins A.c_Maker dx (mfs ca sa L t (Hush.difference seed))) hp5 ni (by simp))
  have hLt:L≠t:=fun z=>by rw [<-z] at ht;exact (by rw [(upd_none ht).1] at hL4;cases hL4)
  have ht0:H4 t=none:=(upd_none ht).1
  rw [mfs_put]
  refine k _ sa L t (kk.trans k6) upd_same (hS4.keep k6) ?_ ?_ (s12.free hL) ?_ hLt
  ·exact k6.at_ hL4 (by simp;exact hLp)
  ·rw [upd_ne hpt.symm,upd_same]
   refine congrArg (fun z=>some (HO.lst z)) ?_
   have e1:((c.na+c.nb:Nat):Int).toNat=c.ins:=by show _=c.na+c.nb;omega
   rw [e1]
   unfold tV
   rw [List.map_replicate]
   generalize c.ins=n
   induction n with
   |zero=>rfl
   |succ n ih=>
    rw [List.replicate_succ,List.replicate_succ,List.flatten_cons,ih]
    rfl
  ·cases e:H t with
   |none=>rfl
   |some o=>
    by_cases hi:t=p
    ·exact absurd hi.symm hpt
    ·rw [kk.at_ e (by simp;exact hi)] at ht0
     cases ht0
abbrev SMaker:=Hushwork.Maker
structure MakerAt (A:Ad) (H:Hp) (p l t:Addr) (m:SMaker):Prop where
 key:m.key.length=16
 seed:m.seed.length=16
 zs:m.zeros=Hush.zeros m.circ m.key m.seed
 dn:m.done<=m.circ.gates.length
 tl:m.told.length=m.circ.ins
 ex:∃dx ca s,Fz H p (.ins A.c_Maker dx (mfs ca s l t (Hush.difference m.seed)))/\CircAt A.c_Circuit H ca m.circ/\SchedAt H s m.key
 lab:H l=some (.lst (lV (zN m.circ m.key m.seed m.done)))
 tld:H t=some (.lst (tV m.told))
 ne:l≠t
section
variable {A:Ad} {H H':Hp} {p l t:Addr} {m:SMaker}
theorem MakerAt.keep {F:List Addr} (h:MakerAt A H p l t m) (k:Keep F H H') (hl:l∉F) (ht:t∉F):MakerAt A H' p l t m:=
 let ⟨dx,ca,s,h1,h2,h3⟩:=h.ex
 ⟨h.key,h.seed,h.zs,h.dn,h.tl,⟨dx,ca,s,k.fz h1,h2.keep k,h3.keep k⟩,k.at_ h.lab hl,k.at_ h.tld ht,h.ne⟩
theorem MakerAt.same (h:MakerAt A H p l t m) (k:Same H H'):MakerAt A H' p l t m:=h.keep (k.keep (F:=[])) (by simp) (by simp)
theorem MakerAt.at_ (h:MakerAt A H p l t m) {n:Nat} (k:Keep [l] H H') (hn:n<=m.circ.gates.length) (hl:H' l=some (.lst (lV (zN m.circ m.key m.seed n)))):MakerAt A H' p l t (m.at n):=
 let ⟨dx,ca,s,h1,h2,h3⟩:=h.ex
 ⟨h.key,h.seed,h.zs,hn,h.tl,⟨dx,ca,s,k.fz h1,h2.keep k,h3.keep k⟩,hl,k.at_ h.tld (by simp;exact h.ne.symm),h.ne⟩
theorem MakerAt.ww (h:MakerAt A H p l t m):∃ca s,WAt A A.c_Maker H p (mfs ca s l t (Hush.difference m.seed)) ca s l m.circ (Hush.difference m.seed)/\SchedAt H s m.key:=by
 obtain ⟨dx,ca,s,h1,h2,h3⟩:=h.ex
 exact ⟨ca,s,⟨⟨dx,h1.rd⟩,mfs_w _ _ _ _ _,h2⟩,h3⟩
theorem MakerAt.wf (h:MakerAt A H p l t m):WfC m.circ:=let ⟨_,_,_,_,h2,_⟩:=h.ex;h2.wf
theorem MakerAt.len (h:MakerAt A H p l t m):(zN m.circ m.key m.seed m.done).length=m.circ.ins+m.done:=zN_len _ h.dn
theorem MakerAt.a16 (h:MakerAt A H p l t m):All16 (zN m.circ m.key m.seed m.done):=zN_16 h.wf h.key h.seed _ h.dn
theorem MakerAt.d16 (h:MakerAt A H p l t m):(Hush.difference m.seed).length=16:=length_diff h.seed
theorem MakerAt.even (h:MakerAt A H p l t m) (k:Keep [l] H H') (hl:H' l=some (.lst (lV (evRun (Hush.difference m.seed) (m.circ.gates.drop m.done) (zN m.circ m.key m.seed m.done))))):MakerAt A H' p l t (m.at (nx m.circ m.done)):=
 h.at_ k (nx_le h.dn).2 (by rw [hl,evRun_zN h.dn])
end
theorem tableAt_eq {m:SMaker} {g:Hush.Gate} {n:Nat} (wf:WfC m.circ) (hz:m.zeros=Hush.zeros m.circ m.key m.seed) (hg:m.circ.gates[n]?=some g):
  m.tableAt (n,g)=Hush.table ((zN m.circ m.key m.seed n).getD g.a []) ((zN m.circ m.key m.seed n).getD g.b []) (Hush.difference m.seed) m.key g.f n:=by
 have hl:=(List.getElem?_eq_some_iff.mp hg).1
 obtain ⟨w1,w2,w3⟩:=wf.gate n g hg
 unfold Hushwork.Maker.tableAt Hush.tableOf
 rw [hz,zeros_get (i:=n) (by omega) w2,zeros_get (i:=n) (by omega) w3]
theorem tableAt_len {m:SMaker} {g:Hush.Gate} {n:Nat} (wf:WfC m.circ) (hz:m.zeros=Hush.zeros m.circ m.key m.seed) (hk:m.key.length=16) (hs:m.seed.length=16) (hg:m.circ.gates[n]?=some g):(m.tableAt (n,g)).length=32:=by
 have hl:=(List.getElem?_eq_some_iff.mp hg).1
 obtain ⟨w1,w2,w3⟩:=wf.gate n g hg
 have a16:=zN_16 wf hk hs n (by omega)
 have hln:=zN_len (c:=m.circ) (key:=m.key) (seed:=m.seed) n (by omega)
 rw [tableAt_eq wf hz hg]
 exact len_table _ _ (a16.get (by omega)) (a16.get (by omega)) (length_diff hs) hk
def RowsOff (F:List Addr) (H:Hp) (a:Addr) (rs:List (List V)):Prop:=a∉F/\∃as:List Addr,H a=some (.lst (as.map V.ref))/\as.length=rs.length/\(∀x∈as,x∉F)/\∀(i:Nat) (p:Addr) (r:List V),as[i]?=some p->rs[i]?=some r->H p=some (.lst r)
theorem RowsOff.keep {F:List Addr} {H H':Hp} {a:Addr} {rs:List (List V)} (h:RowsOff F H a rs) (k:Keep F H H'):RowsOff F H' a rs:=
 let ⟨h0,as,h1,h2,h3,h4⟩:=h
 ⟨h0,as,k.at_ h1 h0,h2,h3,fun i p r e1 e2=>k.at_ (h4 i p r e1 e2) (h3 p (List.mem_of_getElem? e1))⟩
theorem RowsOff.rows {F:List Addr} {H:Hp} {a:Addr} {rs:List (List V)} (h:RowsOff F H a rs):RowsAt H a rs:=let ⟨_,as,h1,h2,_,h4⟩:=h;⟨as,h1,h2,h4⟩
def spGN (A:Ad):Sp:=fun vs H Q _=>∃(p l t:Addr) (m:SMaker) (g:Hush.Gate),vs=[.ref p]/\MakerAt A H p l t m/\m.circ.gates[m.done]?=some g/\
 ∀(H':Hp) (q:Addr) (z:Bytes),Same H H'->H q=none->GGNew A.c_GarbledGate H H' q (m.tableAt (m.done,g)) z->zN m.circ m.key m.seed (m.done+1)=zN m.circ m.key m.seed m.done++[z]->Q (.ref q) H'
theorem sc_Maker_garbled_next:FnScope ["self","g","gate","a","b"] ["self"] (defScope s_Maker_garbled_next):=scB
theorem ok_Maker_garbled_next (T:Txt K mg A):FnOk P w K mg base CX0 8 A.f_Maker_garbled_next A.d_Maker_garbled_next ["self"] (spGN A):=by
 refine T.Maker_garbled_next.fn.okA sc_Maker_garbled_next (fun _ _ _ _ H _ Q E hr h=>?_)
 obtain ⟨p,l,t,m,g,rfl,hM,hg,k⟩:=h
 refine ⟨_,(pss_cons (ps_asg (pe_meth0R (pv 0) (wkM T).cl (wkM T).m_gates_done (ok_GateWalk_gates_done T (wkM T)) (rm hr) T.GateWalk_gates_done.bi .nil pass0) (pgN (i:=1) sc_Maker_garbled_next.nd rfl (Or.inl rfl)))
  (pss_cons (ps_asg (pe_ix (ixL K) (fldK K (fldK K (pv 0))) (pv 1) (fun _ _=>rfl)) (pgN (i:=2) sc_Maker_garbled_next.nd rfl (Or.inl rfl)))
  (pss_cons (ps_asg (pe_ix (ixL K) (fldK K (pv 0)) (pe_ix (ixT K) (pv 2) pe_int (fun _ _=>rfl)) (fun _ _=>rfl)) (pgN (i:=3) sc_Maker_garbled_next.nd rfl (Or.inl rfl)))
  (pss_cons (ps_asg (pe_ix (ixL K) (fldK K (pv 0)) (pe_ix (ixT K) (pv 2) pe_int (fun _ _=>rfl)) (fun _ _=>rfl)) (pgN (i:=4) sc_Maker_garbled_next.nd rfl (Or.inl rfl)))
  (pss_one (ps_ret (pe_call (ok_garbled_gate T) (rm hr) rfl T.garbled_gate.mg_ T.garbled_gate.fn.kp T.garbled_gate.bi .nil pass0 (pa_cons (fldK K (pv 0)) (pa_cons (pe_ix (ixT K) (pv 2) pe_int (fun _ _=>rfl)) (pa_cons (pv 1) (pa_cons (pv 3) (pa_cons (pv 4) (pa_cons (fldK K (pv 0)) pa_nil))))))))))))),?_⟩
 obtain ⟨ca,sa,hW,hS⟩:=hM.ww
 obtain ⟨dx,hp⟩:=hW.ex
 have W:=wkM T
 obtain ⟨dc,lg,lo,gs,h1,h2,h3,h4,h5⟩:=hW.circ.ex
 obtain ⟨w1,w2,w3⟩:=hM.wf.gate _ g hg
 have hn:=(List.getElem?_eq_some_iff.mp hg).1
 obtain ⟨q,hq⟩:∃q,gs[m.done]?=some q:=⟨_,List.getElem?_eq_getElem (by omega)⟩
 have ht:=h4 _ q g hq hg
 have hlen:=hM.len
 refine ⟨_,rfl,p,dx,_,rfl,hp,hW.fs.no _ (by simp),p,ca,sa,l,_,_,_,_,m.done,rfl,hW,hM.lab,by rw [lV_length];exact hlen,fun σ' es=>?_⟩
 obtain rfl:σ'=[some (.ref p),some (.int (m.done:Int)),none,none,none]:=es
 refine ⟨_,rfl,p,_,dx,_,_,rfl,hp,W.cl,W.na _ (by simp),hW.fs.c,ca,_,dc,_,_,rfl,h1.rd,T.c_Circuit.cl,T.c_Circuit.n,cfs_ga,_,rfl,lg,_,_,_,rfl,rfl,h2.sqL,atI_nat (j:=m.done) (v:=V.ref q) (by rw [List.getElem?_map,hq];rfl),fun σ' es=>?_⟩
 obtain rfl:σ'=[some (.ref p),some (.int (m.done:Int)),some (.ref q),none,none]:=es
 refine ⟨_,rfl,p,_,dx,_,_,rfl,hp,W.cl,W.na _ (by simp),hW.fs.l,_,rfl,q,_,_,_,rfl,rfl,SqT.of ht,rfl,l,_,_,_,rfl,rfl,SqL.of hM.lab,lV_at (by omega),fun σ' es=>?_⟩
 obtain rfl:σ'=[some (.ref p),some (.int (m.done:Int)),some (.ref q),some (.int (ofBytes ((zN m.circ m.key m.seed m.done).getD g.a []):Nat)),none]:=es
 refine ⟨_,rfl,p,_,dx,_,_,rfl,hp,W.cl,W.na _ (by simp),hW.fs.l,_,rfl,q,_,_,_,rfl,rfl,SqT.of ht,rfl,l,_,_,_,rfl,rfl,SqL.of hM.lab,lV_at (by omega),fun σ' es=>?_⟩
 obtain rfl:σ'=[some (.ref p),some (.int (m.done:Int)),some (.ref q),some (.int (ofBytes ((zN m.circ m.key m.seed m.done).getD g.a []):Nat)),some (.int (ofBytes ((zN m.circ m.key m.seed m.done).getD g.b []):Nat))]:=es
 refine ⟨_,rfl,p,_,dx,_,_,rfl,hp,W.cl,W.na _ (by simp),hW.fs.s,_,rfl,q,_,_,_,rfl,rfl,SqT.of ht,rfl,_,rfl,_,rfl,_,rfl,_,rfl,p,_,dx,_,_,rfl,hp,W.cl,W.na _ (by simp),hW.fs.d,?_⟩
 have a16:=hM.a16
 refine ⟨sa,m.key,_,_,_,g.f,m.done,rfl,hS,w1,a16.get (by omega),a16.get (by omega),hM.d16,fun H' r s1 hr' hG=>k H' r _ s1 hr' ?_ (zN_succ hg)⟩
 rw [tableAt_eq hM.wf hM.zs hg]
 exact hG
def spTT (A:Ad):Sp:=fun vs H Q _=>∃(p l t:Addr) (m:SMaker) (most:Nat),vs=[.ref p,.int (most:Int)]/\MakerAt A H p l t m/\
 ∀(H':Hp) (q:Addr),Keep [l] H H'->MakerAt A H' p l t (m.at (m.tables m.ahead most m.done).2)->RowsOff [l] H' q ((m.tables m.ahead most m.done).1.map bV)->H q=none->(∀x∈(m.tables m.ahead most m.done).1,x.length=32)->(m.tables m.ahead most m.done).1.length<=32->Q (.ref q) H'
theorem sc_Maker_tell_tables:FnScope ["self","most","tables","garbled"] ["self","most"] (defScope s_Maker_tell_tables):=scB
theorem ok_Maker_tell_tables (T:Txt K mg A):FnOk P w K mg base CX0 9 A.f_Maker_tell_tables A.d_Maker_tell_tables ["self","most"] (spTT A):=by
 refine T.Maker_tell_tables.fn.okA sc_Maker_tell_tables (fun _ _ _ _ H _ Q E hr h=>?_)
 obtain ⟨p,l,t,m,most,rfl,hM,k⟩:=h
 refine ⟨_,(pss_cons (ps_asg (pe_lst pa_nil) (pgN (i:=2) sc_Maker_tell_tables.nd rfl (Or.inl rfl)))
  (pss_cons (ps_expr (pe_meth0R (pv 0) (wkM T).cl (wkM T).m_do_even_gates (ok_GateWalk_do_even_gates T (wkM T)) (rm hr) T.GateWalk_do_even_gates.bi .nil pass0))
  (pss_cons (ps_while PassesOwn.never (PW.pt (pw_and (pt_cmpR op_lt (pe_callB (lenS K) (by rfl) T.n_len PySem.boot_len (pa_cons (pv 2) pa_nil)) (pv 1) (nomark _)) (pw_and1 (pt_not (truthK K (pe_meth0R (pv 0) (wkM T).cl (wkM T).m_all_done (ok_GateWalk_all_done T (wkM T)) (rm hr) T.GateWalk_all_done.bi .nil pass0) (fun _=>rfl)))))) (pss_cons (ps_asg (pe_meth0R (pv 0) (wkM T).cl (mt_Maker_garbled_next T) (ok_Maker_garbled_next T) (rm hr) T.Maker_garbled_next.bi .nil pass0) (pgN (i:=3) sc_Maker_tell_tables.nd rfl (Or.inl rfl)))
  (pss_cons (ps_expr (pe_bm PySem.F.plainAttrs_list PySem.F.slot_list_append PySem.F.type_list_append mt_append (pv 2) (pa_cons (fldK K (pv 3)) pa_nil)))
  (pss_cons (ps_expr (pe_bm PySem.F.plainAttrs_list PySem.F.slot_list_append PySem.F.type_list_append mt_append (fldK K (pv 0)) (pa_cons (fldK K (pv 3)) pa_nil)))
  (pss_one (ps_expr (pe_meth0R (pv 0) (wkM T).cl (wkM T).m_do_even_gates (ok_GateWalk_do_even_gates T (wkM T)) (rm hr) T.GateWalk_do_even_gates.bi .nil pass0)))))))
  (pss_one (ps_ret (pv 2)))))),?_⟩
 have W:=wkM T
 refine ⟨Nat.zero_le _,fun tb htb=>fun σ' es=>?_⟩
 obtain rfl:σ'=[some (.ref p),some (.int (most:Int)),some (.ref tb),none]:=es
 have s0:Same H (upd H tb (.lst [])):=Same.new htb
 have hM0:=hM.same s0
 have hltb:l≠tb:=ne_of_none hM.lab htb
 have ev:∀{H1:Hp} {m1:SMaker},MakerAt A H1 p l t m1->∃ca sa dx,Rd H1 p (.ins A.c_Maker dx (mfs ca sa l t (Hush.difference m1.seed)))/\WAt A A.c_Maker H1 p (mfs ca sa l t (Hush.difference m1.seed)) ca sa l m1.circ (Hush.difference m1.seed):=fun {H1 m1} h=>by
  obtain ⟨ca,sa,hW,hS⟩:=h.ww
  obtain ⟨dx,hp⟩:=hW.ex
  exact ⟨ca,sa,dx,hp,hW⟩
 obtain ⟨ca,sa,dx,hp,hW⟩:=ev hM0
 refine ⟨_,rfl,p,dx,_,rfl,hp,hW.fs.no _ (by simp),p,ca,sa,l,_,_,_,_,m.done,rfl,hW,hM.d16,hM0.lab,hM.len,hM.dn,hM.a16,fun H1 k1 hl1=>?_⟩
 have hM1:=hM0.even k1 hl1
 have hz:∀n,n<=m.circ.gates.length->∀mo,m.tables (m.circ.numbered.drop n) mo n=m.tables (m.circ.numbered.drop (nx m.circ n)) mo (nx m.circ n):=fun n hn mo=>tables_even rfl _ n rfl hn
 have ht1:H1 tb=some (.lst []):=k1.at_ upd_same (by simp;exact hltb.symm)
 refine ⟨fun μ σ H2=>∃(n:Nat) (ts:List Bytes) (v:Option V),μ=m.circ.gates.length - n/\σ=[some (.ref p),some (.int (most:Int)),some (.ref tb),v]/\Keep [l] H H2/\MakerAt A H2 p l t (m.at n)/\RowsOff [l] H2 tb (ts.map bV)/\nx m.circ n=n/\ts.length<=most/\ts.length<=n/\(∀x∈ts,x.length=32)/\
  m.tables m.ahead most m.done=(ts++(m.tables (m.circ.numbered.drop n) (most - ts.length) n).1,(m.tables (m.circ.numbered.drop n) (most - ts.length) n).2),
  ⟨_,nx m.circ m.done,[],none,rfl,rfl,s0.keep.trans k1,hM1,⟨by simp;exact hltb.symm,[],ht1,rfl,fun x hx=>absurd hx (by simp),fun i p r e=>by simp at e⟩,?_,Nat.zero_le _,Nat.zero_le _,fun x hx=>absurd hx (by simp),?_⟩,?_⟩
 ·rcases nx_odd hM.dn with e|⟨g,e,ho⟩
  ·rw [e]
   have:=nx_le (c:=m.circ) (n:=m.circ.gates.length) (Nat.le_refl _)
   omega
  ·exact nx_fix e ho
 ·show m.tables (m.circ.numbered.drop m.done) most m.done=_
  rw [hz _ hM.dn]
  rfl
 rintro μ σ H2 ⟨n,ts,v,rfl,rfl,k2,hM2,hR,hfix,hts,htn,h32,hspec⟩
 obtain ⟨h0,as,hr1,hr2,hr3,hr4⟩:=hR
 have hdn:n<=m.circ.gates.length:=hM2.dn
 have hal:as.length=ts.length:=by rw [hr2,List.length_map]
 have fin:(most<=ts.length\/n=m.circ.gates.length)->Q (.ref tb) H2:=fun hc=>by
  have e0:m.tables (m.circ.numbered.drop n) (most - ts.length) n=([],n):=by
   by_cases he:n=m.circ.gates.length
   ·rw [he,numbered_end]
    rfl
   ·have hc:most<=ts.length:=hc.resolve_right he
    rcases nx_odd hdn with e|⟨g,e,ho⟩
    ·exact absurd (hfix.symm.trans e) he
    ·rw [hfix] at e
     rw [numbered_drop e,show most - ts.length=0 by omega]
     show (if Hush.odd g.f=false then _ else _)=_
     rw [if_neg (by rw [ho];decide)]
  rw [e0,List.append_nil] at hspec
  have e1:(m.tables m.ahead most m.done).1=ts:=by rw [hspec]
  have e2:(m.tables m.ahead most m.done).2=n:=by rw [hspec]
  refine k H2 tb k2 (by rw [e2];exact hM2) (by rw [e1];exact ⟨h0,as,hr1,hr2,hr3,hr4⟩) htb (by rw [e1];exact h32) ?_
  rw [e1]
  have:=hM.wf.ng
  omega
 refine ⟨_,rfl,tb,_,rfl,.inl (SqL.of hr1),_,rfl,_,_,rfl,rfl,_,rfl,?_⟩
 rw [List.length_map,hal]
 refine iteB (fun c1=>?_) fun c1=>?_
 ·rw [dT] at c1
  have c1':ts.length < most:=by omega
  obtain ⟨ca2,sa2,dx2,hp2,hW2⟩:=ev hM2
  refine ⟨_,rfl,p,dx2,_,rfl,hp2,hW2.fs.no _ (by simp),p,ca2,sa2,l,_,_,_,_,n,rfl,hW2,hM2.lab,by rw [lV_length];exact hM2.len,_,rfl,?_⟩
  show if (!decide (n=m.circ.gates.length))=true then _ else _
  refine iteB (fun c2=>?_) fun c2=>?_
  ·simp only [Bool.not_eq_true',decide_eq_false_iff_not] at c2
   have hnlt:n < m.circ.gates.length:=by omega
   obtain ⟨g,hg,ho⟩:∃g,m.circ.gates[n]?=some g/\Hush.odd g.f=true:=by
    rcases nx_odd hdn with e|⟨g,e,ho⟩
    ·rw [hfix] at e;omega
    ·rw [hfix] at e;exact ⟨g,e,ho⟩
   refine ⟨fun σ' H'=>∃m',m' < m.circ.gates.length - n/\∃(n:Nat) (ts:List Bytes) (v:Option V),m'=m.circ.gates.length - n/\σ'=[some (.ref p),some (.int (most:Int)),some (.ref tb),v]/\Keep [l] H H'/\MakerAt A H' p l t (m.at n)/\RowsOff [l] H' tb (ts.map bV)/\nx m.circ n=n/\ts.length<=most/\ts.length<=n/\(∀x∈ts,x.length=32)/\
    m.tables m.ahead most m.done=(ts++(m.tables (m.circ.numbered.drop n) (most - ts.length) n).1,(m.tables (m.circ.numbered.drop n) (most - ts.length) n).2),fun σ' H' h=>h,?_⟩
   refine ⟨_,rfl,p,dx2,_,rfl,hp2,mfs_no _ _ _ _ _ (by decide+kernel),p,l,t,m.at n,g,rfl,hM2,hg,fun H3 q z s3 hq ⟨dg,lt,hq1,hq2,hq2'⟩ hzn=>fun σ' es=>?_⟩
   obtain rfl:σ'=[some (.ref p),some (.int (most:Int)),some (.ref tb),some (.ref q)]:=es
   have hr1':=s3 _ _ hr1
   refine ⟨_,rfl,.inl ⟨rfl,_,SqL.of hr1'⟩,_,rfl,q,_,dg,_,_,rfl,.inl hq1,T.c_GarbledGate.cl,T.c_GarbledGate.n,ggf_table _ _,tb,_,_,rfl,rfl,hr1',?_,?_⟩
   ·have:=hM.wf.ng
    exact sz (m:=32) (by rw [List.length_map];omega)
   have hM3:=hM2.same s3
   have htbl:tb≠l:=hltb.symm
   have hqtb:q≠tb:=fun z=>by rw [z] at hq;rw [hr1] at hq;cases hq
   have klt:Keep [tb] H3 (upd H3 tb (.lst (as.map V.ref++[V.ref lt]))):=Keep.set hr1' (fun z=>z) (by simp)
   have httb:t≠tb:=ne_of_none hM.tld htb
   have hM4:=hM3.keep klt (by simp;exact hltb) (by simp;exact httb)
   obtain ⟨ca4,sa4,dx4,hp4,hW4⟩:=ev hM4
   have hq4:(upd H3 tb (.lst (as.map V.ref++[V.ref lt]))) q=H3 q:=upd_ne hqtb
   have hsz:(lV (zN m.circ m.key m.seed n)).length < sizeLine:=by
    have:=hM.wf.ng
    have:=hM.wf.na
    have:=hM.wf.nb
    have hin:m.circ.ins=m.circ.na+m.circ.nb:=rfl
    have:=hM2.len
    exact sz (m:=100) (by rw [lV_length,zN_len n hdn];omega)
   refine ⟨_,rfl,p,_,dx4,_,_,rfl,hp4,W.cl,W.na _ (by simp),hW4.fs.l,.inl ⟨rfl,_,SqL.of hM4.lab⟩,_,rfl,q,_,dg,_,_,rfl,.inl (hq4.trans hq1),T.c_GarbledGate.cl,T.c_GarbledGate.n,ggf_zero _ _,l,_,_,rfl,rfl,hM4.lab,hsz,?_⟩
   have eLb:lV (zN m.circ m.key m.seed n)++[V.int (ofBytes z:Nat)]=lV (zN m.circ m.key m.seed (n+1)):=by
    have hzn:zN m.circ m.key m.seed (n+1)=zN m.circ m.key m.seed n++[z]:=hzn
    rw [hzn]
    unfold lV
    rw [List.map_append]
    rfl
   have eLc:lV (zN (m.at n).circ (m.at n).key (m.at n).seed (m.at n).done)++[V.int (ofBytes z:Nat)]=lV (zN m.circ m.key m.seed (n+1)):=eLb
   rw [eLc]
   have k5:Keep [l] (upd H3 tb (.lst (as.map V.ref++[V.ref lt]))) (upd (upd H3 tb (.lst (as.map V.ref++[V.ref lt]))) l (.lst (lV (zN m.circ m.key m.seed (n+1))))):=Keep.set hM4.lab (fun z=>z) (by simp)
   have hM5:MakerAt A _ p l t (m.at (n+1)):=hM4.at_ (n:=n+1) k5 hnlt upd_same
   obtain ⟨ca5,sa5,dx5,hp5,hW5⟩:=ev hM5
   refine ⟨_,rfl,p,dx5,_,rfl,hp5,hW5.fs.no _ (by simp),p,ca5,sa5,l,_,_,_,_,n+1,rfl,hW5,hM5.d16,hM5.lab,hM5.len,hM5.dn,hM5.a16,fun H6 k6 hl6=>?_⟩
   have hM6:MakerAt A H6 p l t (m.at (nx m.circ (n+1))):=hM5.even k6 hl6
   have hnn:n+1<=m.circ.gates.length:=hnlt
   have hle:=nx_le hnn
   have hfix':nx m.circ (nx m.circ (n+1))=nx m.circ (n+1):=by
    rcases nx_odd hnn with e|⟨g',e,ho'⟩
    ·rw [e]
     have:=nx_le (c:=m.circ) (n:=m.circ.gates.length) (Nat.le_refl _)
     omega
    ·exact nx_fix e ho'
   have hltl:lt≠l:=fun z=>by
    rw [z,hM2.lab] at hq2'
    cases hq2'
   have hlttb:lt≠tb:=fun z=>by rw [z,hr1] at hq2';cases hq2'
   refine ⟨_,?_,nx m.circ (n+1),ts++[m.tableAt (n,g)],_,rfl,rfl,?_,hM6,?_,hfix',by rw [List.length_append];exact c1',?_,?_,?_⟩
   ·omega
   ·exact ((k2.trans (s3.keep)).young2 klt (fun b hb=>by rw [List.mem_singleton.mp hb];exact .inr htb)).trans (k5.trans k6)
   ·have hR5:RowsOff [l] (upd H3 tb (.lst (as.map V.ref++[V.ref lt]))) tb ((ts++[m.tableAt (n,g)]).map bV):=by
     refine ⟨h0,as++[lt],by rw [upd_same,List.map_append];rfl,by rw [List.length_append,List.length_map,List.length_append,hal];rfl,fun x hx=>?_,fun i q' r e1 e2=>?_⟩
     ·rcases List.mem_append.mp hx with hx|hx
      ·exact hr3 x hx
      ·rw [List.mem_singleton.mp hx]
       simp
       exact hltl
     ·rw [List.map_append] at e2
      by_cases hi:i < as.length
      ·rw [List.getElem?_append_left hi] at e1
       rw [List.getElem?_append_left (by rw [List.length_map,<-hal];exact hi)] at e2
       have hx:=hr4 i q' r e1 e2
       have hx3:=s3 _ _ hx
       have hne:q'≠tb:=fun z=>by
        rw [z,hr1] at hx
        injection hx with hx
        injection hx with hx
        have h1:=hr4 i q' r e1 e2
        rw [z,hr1] at h1
        have hb:r=bV (ts.getD i []):=by
         rw [List.getElem?_map] at e2
         obtain ⟨b,hb1,hb2⟩:=Option.map_eq_some_iff.mp e2
         rw [List.getD_eq_getElem?_getD,hb1]
         exact hb2.symm
        have hrl:r.length=32:=by
         rw [List.getElem?_map] at e2
         obtain ⟨b,hb1,hb2⟩:=Option.map_eq_some_iff.mp e2
         rw [<-hb2,bV_length]
         exact h32 b (List.mem_of_getElem? hb1)
        have hlen32:as.length=32:=by rw [<-hrl,<-hx,List.length_map]
        obtain ⟨c0,hc0⟩:∃c0,as[0]?=some c0:=⟨_,List.getElem?_eq_getElem (by omega)⟩
        have hfirst:(as.map V.ref)[0]?=some (V.ref c0):=by rw [List.getElem?_map,hc0];rfl
        rw [hx,hb] at hfirst
        obtain ⟨c,_,hcc⟩:=bV_get hfirst
        cases hcc
       rw [upd_ne hne]
       exact hx3
      ·rw [List.getElem?_append_right (by omega)] at e1
       have hi0:i=as.length:=by
        have:=(List.getElem?_eq_some_iff.mp e1).1
        simp at this
        omega
       subst hi0
       rw [Nat.sub_self] at e1
       cases e1
       rw [List.getElem?_append_right (by rw [List.length_map,hal];exact Nat.le_refl _),List.length_map,hal,Nat.sub_self] at e2
       cases e2
       rw [upd_ne hlttb]
       exact hq2
    exact (hR5.keep k5).keep k6
   ·rw [List.length_append]
    show ts.length+1<=_
    omega
   ·intro x hx
    rcases List.mem_append.mp hx with hx|hx
    ·exact h32 x hx
    ·rw [List.mem_singleton.mp hx]
     exact tableAt_len hM.wf hM.zs hM.key hM.seed hg
   ·rw [hspec,numbered_drop hg]
    obtain ⟨r,hr⟩:∃r,most - ts.length=r+1:=⟨most - ts.length - 1,by omega⟩
    have hr2:most - (ts++[m.tableAt (n,g)]).length=r:=by rw [List.length_append];show most - (ts.length+1)=r;omega
    rw [hr,hr2]
    have e5:m.tables ((n,g)::m.circ.numbered.drop (n+1)) (r+1) n=(m.tableAt (n,g)::(m.tables (m.circ.numbered.drop (n+1)) r (n+1)).1,(m.tables (m.circ.numbered.drop (n+1)) r (n+1)).2):=by
     show (if Hush.odd g.f=false then _ else _)=_
     rw [if_neg (by rw [ho];decide)]
    rw [e5,hz (n+1) hnn]
    dsimp only
    rw [List.append_assoc]
    rfl
  ·simp only [Bool.not_eq_false',decide_eq_true_eq] at c2
   exact ⟨_,rfl,fin (.inr c2)⟩
 ·rw [dF] at c1
  exact ⟨_,rfl,fin (.inl (by omega))⟩
def bD (b:Bytes):List PyData:=b.map fun c=>.int (c.toNat:Int)
theorem dpAll_b {K:W.Frag} {H:Hp}:∀b:Bytes,DpAll K H (bV b) (bD b)
 |[]=>.nil
 |c::b=>.cons (.int _) (dpAll_b b)
theorem eqvAll_b:∀a b:Bytes,PyData.eqvAll (bD a) (bD b)=decide (a=b)
 |[],[]=>rfl
 |[],_::_=>rfl
 |_::_,[]=>rfl
 |x::a,y::b=>by
  show (((x.toNat:Int) == (y.toNat:Int))&&PyData.eqvAll (bD a) (bD b))=_
  rw [eqvAll_b a b]
  by_cases h:x=y
  ·subst h
   by_cases h2:a=b
   ·subst h2;simp
   ·simp [h2]
  ·have:((x.toNat:Int) == (y.toNat:Int))=false:=by
    rw [beq_eq_false_iff_ne]
    intro z
    exact h (UInt8.toNat_inj.mp (by omega))
   simp [this,h]
theorem canLay_b:∀b:Bytes,PyData.canLayAll0 (bD b)=true
 |[]=>rfl
 |c::b=>by
  show (true&&PyData.canLayAll0 (bD b))=true
  rw [canLay_b b]
  rfl
theorem depth_b:∀b:Bytes,PyData.depthAll (bD b)=0
 |[]=>rfl
 |c::b=>by
  show max 0 (PyData.depthAll (bD b))=0
  rw [depth_b b]
  rfl
theorem shaped_b (b:Bytes):SeqAt.shaped (.list (bD b))=true:=by
 unfold SeqAt.shaped
 have h1:PyData.canLay0 (.list (bD b))=true:=canLay_b b
 have h2:PyData.depth (.list (bD b))=1:=by
  show PyData.depthAll (bD b)+1=1
  rw [depth_b]
 rw [h1,h2]
 rfl
theorem cut_nat {xs:List V} {i j:Nat}:cutV xs (some (i:Int)) (some (j:Int))=(xs.drop i).take (j - i):=by
 unfold cutV
 rw [HT.sIx_nat,HT.sIx_nat]
 by_cases h:i<=xs.length
 ·rw [Nat.min_eq_left h]
  by_cases h2:j<=xs.length
  ·rw [Nat.min_eq_left h2]
  ·rw [Nat.min_eq_right (by omega),List.take_of_length_le,List.take_of_length_le]
   ·rw [List.length_drop];omega
   ·rw [List.length_drop];exact Nat.le_refl _
 ·rw [List.drop_of_length_le (show xs.length<=min i xs.length by omega),List.drop_of_length_le (show xs.length<=i by omega),List.take_nil,List.take_nil]
theorem bV_cut {s:Bytes} {i j:Nat}:cutV (bV s) (some (i:Int)) (some (j:Int))=bV ((s.drop i).take (j - i)):=by
 rw [cut_nat,bV_take,bV_drop]
def cmf (s d:V):List (Str×V):=[("same",s),("differs",d)]
theorem cmf_put (s d:V):putF "differs" d (putF "same" s [])=cmf s d:=by
 show (if ("same":Str)="differs" then _ else _)=_
 rw [if_neg (by decide+kernel)]
 rfl
theorem cmf_s (s d:V):(cmf s d).lookup ("same":Str)=some s:=by rfl
theorem cmf_d (s d:V):(cmf s d).lookup ("differs":Str)=some d:=by
 unfold cmf
 rw [List.lookup_cons,show (("differs":Str) == "same")=false by decide+kernel]
 rfl
def spCmp (C:Addr):Sp:=fun vs H Q _=>∃(p dx:Addr) (t z:V),vs=[.ref p,t,z]/\H p=some (.ins C dx [])/\Q .non (upd H p (.ins C dx (cmf t z)))
theorem sc_Comparison_init:FnScope ["self","same","differs"] ["self","same","differs"] (defScope s_Comparison_init):=scB
theorem ok_Comparison_init (T:Txt K mg A):FnOk P w K mg base CX0 1 A.f_Comparison_init A.d_Comparison_init ["self","same","differs"] (spCmp A.c_Comparison):=by
 refine T.Comparison_init.fn.okA sc_Comparison_init (fun _ _ _ _ H _ Q E hr h=>?_)
 obtain ⟨p,dx,t,z,rfl,hp,k⟩:=h
 refine ⟨_,(pss_cons (ps_fld (pv 0) (pv 1) rfl)
  (pss_one (ps_fld (pv 0) (pv 2) rfl))),?_⟩
 refine ⟨_,rfl,_,rfl,p,_,dx,_,rfl,hp,T.c_Comparison.cl,T.c_Comparison.n,(by show 0 < 1000;decide),?_⟩
 refine ⟨_,rfl,_,rfl,p,_,dx,_,rfl,upd_same,T.c_Comparison.cl,T.c_Comparison.n,(by show 1 < 1000;decide),?_⟩
 rw [upd_upd,cmf_put]
 exact k
def spMT (A:Ad):Sp:=fun vs H Q _=>∃(p l t sl:Addr) (m:SMaker) (s:Bytes),vs=[.ref p,.ref sl]/\MakerAt A H p l t m/\H sl=some (.lst (bV s))/\sl≠l/\s.length % 32=0/\s.length<=2048/\
 ∀(H':Hp) (q dx:Addr) (b:Bool),Keep [l] H H'->MakerAt A H' p l t (m.at (m.same m.ahead s m.done 0).2.1)->H' q=some (.ins A.c_Comparison dx (cmf (.int ((m.same m.ahead s m.done 0).2.2:Nat)) (.bl b)))->H q=none->
  (m.same m.ahead s m.done 0).1=(if b=true then 2 else if (m.same m.ahead s m.done 0).2.1=m.circ.gates.length then 1 else 0)->Q (.ref q) H'
theorem sc_Maker_match_tables:FnScope ["self","stream","same","start","garbled"] ["self","stream"] (defScope s_Maker_match_tables):=scB
theorem ok_Maker_match_tables (T:Txt K mg A):FnOk P w K mg base CX0 9 A.f_Maker_match_tables A.d_Maker_match_tables ["self","stream"] (spMT A):=by
 refine T.Maker_match_tables.fn.okA sc_Maker_match_tables (fun _ _ _ _ H _ Q E hr h=>?_)
 obtain ⟨p,l,t,sl,m,s,rfl,hM,hsl,hne,hmod,hmax,k⟩:=h
 refine ⟨_,(pss_cons (ps_asg pe_int (pgN (i:=2) sc_Maker_match_tables.nd rfl (Or.inl rfl)))
  (pss_cons (ps_expr (pe_meth0R (pv 0) (wkM T).cl (wkM T).m_do_even_gates (ok_GateWalk_do_even_gates T (wkM T)) (rm hr) T.GateWalk_do_even_gates.bi .nil pass0))
  (pss_cons (ps_while PassesOwn.never (PW.pt (pw_and (pt_cmpR op_lt (pe_op op_mul (pv 2) (pe_gint rfl T.i_TABLE_BYTES)) (pe_callB (lenS K) (by rfl) T.n_len PySem.boot_len (pa_cons (pv 1) pa_nil)) (nomark _)) (pw_and1 (pt_not (truthK K (pe_meth0R (pv 0) (wkM T).cl (wkM T).m_all_done (ok_GateWalk_all_done T (wkM T)) (rm hr) T.GateWalk_all_done.bi .nil pass0) (fun _=>rfl)))))) (pss_cons (ps_asg (pe_op op_mul (pv 2) (pe_gint rfl T.i_TABLE_BYTES)) (pgN (i:=3) sc_Maker_match_tables.nd rfl (Or.inl rfl)))
  (pss_cons (ps_asg (pe_meth0R (pv 0) (wkM T).cl (mt_Maker_garbled_next T) (ok_Maker_garbled_next T) (rm hr) T.Maker_garbled_next.bi .nil pass0) (pgN (i:=4) sc_Maker_match_tables.nd rfl (Or.inl rfl)))
  (pss_cons (ps_if (pt_cmpR (neD K hr.units) (fldK K (pv 4)) (pe_slice (slL K) (pv 1) (po_some (pv 3)) (po_some (pe_op op_add (pv 3) (pe_gint rfl T.i_TABLE_BYTES)))) (nomark _)) (pss_one (ps_ret (pe_make T.c_Comparison.mk_ (ok_Comparison_init T) (rm hr) rfl T.c_Comparison.mg_ T.Comparison_init.bi .nil pass0 (pa_cons (pv 2) (pa_cons pe_bl pa_nil))))) pss_nil)
  (pss_cons (ps_expr (pe_bm PySem.F.plainAttrs_list PySem.F.slot_list_append PySem.F.type_list_append mt_append (fldK K (pv 0)) (pa_cons (fldK K (pv 4)) pa_nil)))
  (pss_cons (ps_asg (pe_op op_add (pv 2) pe_int) (pgN (i:=2) sc_Maker_match_tables.nd rfl (Or.inl rfl)))
  (pss_one (ps_expr (pe_meth0R (pv 0) (wkM T).cl (wkM T).m_do_even_gates (ok_GateWalk_do_even_gates T (wkM T)) (rm hr) T.GateWalk_do_even_gates.bi .nil pass0)))))))))
  (pss_one (ps_ret (pe_make T.c_Comparison.mk_ (ok_Comparison_init T) (rm hr) rfl T.c_Comparison.mg_ T.Comparison_init.bi .nil pass0 (pa_cons (pv 2) (pa_cons pe_bl pa_nil)))))))),?_⟩
 have W:=wkM T
 refine fun σ' es=>?_
 obtain rfl:σ'=[some (.ref p),some (.ref sl),some (.int ((0:Nat):Int)),none,none]:=es
 have ev:∀{H1:Hp} {m1:SMaker},MakerAt A H1 p l t m1->∃ca sa dx,Rd H1 p (.ins A.c_Maker dx (mfs ca sa l t (Hush.difference m1.seed)))/\WAt A A.c_Maker H1 p (mfs ca sa l t (Hush.difference m1.seed)) ca sa l m1.circ (Hush.difference m1.seed):=fun {H1 m1} h=>by
  obtain ⟨ca,sa,hW,hS⟩:=h.ww
  obtain ⟨dx,hp⟩:=hW.ex
  exact ⟨ca,sa,dx,hp,hW⟩
 obtain ⟨ca,sa,dx,hp,hW⟩:=ev hM
 refine ⟨_,rfl,p,dx,_,rfl,hp,hW.fs.no _ (by simp),p,ca,sa,l,_,_,_,_,m.done,rfl,hW,hM.d16,hM.lab,hM.len,hM.dn,hM.a16,fun H1 k1 hl1=>?_⟩
 have hM1:=hM.even k1 hl1
 have hz:∀n,n<=m.circ.gates.length->∀s' k',m.same (m.circ.numbered.drop n) s' n k'=m.same (m.circ.numbered.drop (nx m.circ n)) s' (nx m.circ n) k':=fun n hn s' k'=>same_even _ n rfl hn
 have fixd:∀n,n<=m.circ.gates.length->nx m.circ (nx m.circ n)=nx m.circ n:=fun n hn=>by
  rcases nx_odd hn with e|⟨g,e,ho⟩
  ·rw [e]
   have:=nx_le (c:=m.circ) (n:=m.circ.gates.length) (Nat.le_refl _)
   omega
  ·exact nx_fix e ho
 let I:Nat->L2.St->Hp->Prop:=fun μ σ H2=>∃(n k':Nat) (v w':Option V),μ=m.circ.gates.length - n/\σ=[some (.ref p),some (.ref sl),some (.int (k':Int)),v,w']/\Keep [l] H H2/\MakerAt A H2 p l t (m.at n)/\nx m.circ n=n/\k'<=n/\
  m.same m.ahead s m.done 0=m.same (m.circ.numbered.drop n) (s.drop (32*k')) n k'
 refine ⟨I,⟨_,nx m.circ m.done,0,none,none,rfl,rfl,k1,hM1,fixd _ hM.dn,Nat.zero_le _,?_⟩,?_⟩
 ·show m.same (m.circ.numbered.drop m.done) s m.done 0=_
  rw [hz _ hM.dn]
  rfl
 rintro μ σ H2 ⟨n,k',v,w',rfl,rfl,k2,hM2,hfix,hkn,hspec⟩
 have hdn:n<=m.circ.gates.length:=hM2.dn
 have hsl2:=k2.at_ hsl (by simp;exact hne)
 have hdl:(s.drop (32*k')).length=s.length - 32*k':=by rw [List.length_drop]
 have fin:(s.length<=32*k'\/n=m.circ.gates.length)->m.same m.ahead s m.done 0=((if n=m.circ.gates.length then 1 else 0:Int),n,k'):=fun hc=>by
  rw [hspec]
  by_cases he:n=m.circ.gates.length
  ·rw [he,numbered_end,if_pos rfl]
   rfl
  ·have hc:s.length<=32*k':=hc.resolve_right he
   rw [if_neg he]
   rcases nx_odd hdn with e|⟨g,e,ho⟩
   ·exact absurd (hfix.symm.trans e) he
   ·rw [hfix] at e
    rw [numbered_drop e]
    show (if Hush.odd g.f=false then _ else _)=_
    rw [if_neg (by rw [ho];decide),if_pos (by rw [hdl];omega)]
 have mk:∀(b:Bool),m.same m.ahead s m.done 0=((if b=true then 2 else if n=m.circ.gates.length then 1 else 0:Int),n,k')->∀H3,Same H2 H3->∀x dx',H3 x=none->H3 dx'=none->dx'≠x->
   Q (.ref x) (upd (upd (upd H3 dx' (.own x)) x (.ins A.c_Comparison dx' [])) x (.ins A.c_Comparison dx' (cmf (.int (k':Int)) (.bl b)))):=fun b hb H3 s3 x dx' nx' nd nxd=>by
  have ss:Same H2 (upd (upd (upd H3 dx' (.own x)) x (.ins A.c_Comparison dx' [])) x (.ins A.c_Comparison dx' (cmf (.int (k':Int)) (.bl b)))):=Same.young (Same.young (Same.young s3 (s3.free nd)) (s3.free nx')) (s3.free nx')
  have x0:H x=none:=by
   cases e:H x with
   |none=>rfl
   |some o=>
    by_cases hi:x=l
    ·have h9:=hM2.lab
     rw [<-hi,s3.free nx'] at h9
     cases h9
    ·have h9:=k2.at_ e (by simp;exact hi)
     rw [s3.free nx'] at h9
     cases h9
  refine k _ x dx' b (k2.trans ss.keep) ?_ ?_ x0 ?_
  ·rw [hb]
   exact hM2.same ss
  ·rw [upd_same,hb]
  ·rw [hb]
 refine ⟨_,rfl,_,_,rfl,rfl,.inr ⟨by decide,by decide⟩,_,rfl,sl,_,rfl,.inl (SqL.of hsl2),_,_,rfl,rfl,_,rfl,?_⟩
 rw [bV_length]
 refine iteB (fun c1=>?_) fun c1=>?_
 ·rw [dT] at c1
  have c1':32*k' < s.length:=by omega
  obtain ⟨ca2,sa2,dx2,hp2,hW2⟩:=ev hM2
  refine ⟨_,rfl,p,dx2,_,rfl,hp2,hW2.fs.no _ (by simp),p,ca2,sa2,l,_,_,_,_,n,rfl,hW2,hM2.lab,by rw [lV_length];exact hM2.len,_,rfl,?_⟩
  show if (!decide (n=m.circ.gates.length))=true then _ else _
  refine iteB (fun c2=>?_) fun c2=>?_
  ·simp only [Bool.not_eq_true',decide_eq_false_iff_not] at c2
   have hnlt:n < m.circ.gates.length:=by omega
   obtain ⟨g,hg,ho⟩:∃g,m.circ.gates[n]?=some g/\Hush.odd g.f=true:=by
    rcases nx_odd hdn with e|⟨g,e,ho⟩
    ·rw [hfix] at e;omega
    ·rw [hfix] at e;exact ⟨g,e,ho⟩
   have hstep:m.same m.ahead s m.done 0=(if (s.drop (32*k')).take 32=m.tableAt (n,g) then m.same (m.circ.numbered.drop (n+1)) (s.drop (32*(k'+1))) (n+1) (k'+1) else (2,n,k')):=by
    rw [hspec,numbered_drop hg]
    show (if Hush.odd g.f=false then _ else _)=_
    rw [if_neg (by rw [ho];decide),if_neg (by rw [hdl];omega),List.drop_drop,show 32*k'+32=32*(k'+1) by omega]
   refine ⟨fun σ' H'=>∃m',m' < m.circ.gates.length - n/\I m' σ' H',fun σ' H' h=>h,?_⟩
   refine ⟨_,rfl,_,_,rfl,rfl,.inr ⟨by decide,by decide⟩,fun σ' es=>?_⟩
   have e32:(k':Int)*32=((32*k':Nat):Int):=by omega
   dsimp only at es
   rw [e32] at es
   obtain rfl:σ'=[some (.ref p),some (.ref sl),some (.int (k':Int)),some (.int ((32*k':Nat):Int)),w']:=es
   refine ⟨_,rfl,p,dx2,_,rfl,hp2,mfs_no _ _ _ _ _ (by decide+kernel),p,l,t,m.at n,g,rfl,hM2,hg,fun H3 q z s3 hq ⟨dg,lt,hq1,hq2,hq2'⟩ hzn=>fun σ' es=>?_⟩
   obtain rfl:σ'=[some (.ref p),some (.ref sl),some (.int (k':Int)),some (.int ((32*k':Nat):Int)),some (.ref q)]:=es
   have hM3:=hM2.same s3
   have hsl3:=s3 _ _ hsl2
   have hg1:=T.c_GarbledGate.na ("table":Str) (by simp)
   refine ⟨_,rfl,q,_,dg,_,_,rfl,.inl hq1,T.c_GarbledGate.cl,hg1,ggf_table _ _,_,rfl,_,rfl,_,rfl,_,rfl,_,_,rfl,rfl,_,rfl,sl,_,rfl,SqL.of hsl3,fun cu hcu=>?_⟩
   have e33:((32*k':Nat):Int)+32=((32*k'+32:Nat):Int):=by omega
   rw [e33,bV_cut,show 32*k'+32 - 32*k'=32 by omega]
   have htl:(upd H3 cu (.lst (bV ((s.drop (32*k')).take 32)))) lt=some (.lst (bV ((m.at n).tableAt ((m.at n).done,g)))):=by rw [upd_ne (ne_of_none hq2 hcu)];exact hq2
   refine ⟨_,_,.lst (SqL.of htl) (dpAll_b _),.lst (SqL.of upd_same) (dpAll_b _),shaped_b _,shaped_b _,_,rfl,?_⟩
   have ecmp:PyData.eqv (.list (bD ((m.at n).tableAt ((m.at n).done,g)))) (.list (bD ((s.drop (32*k')).take 32)))=decide (m.tableAt (n,g)=(s.drop (32*k')).take 32):=eqvAll_b _ _
   rw [ecmp]
   have s4:Same H2 (upd H3 cu (.lst (bV ((s.drop (32*k')).take 32)))):=Same.tn s3 hcu _
   refine iteB (fun c3=>?_) fun c3=>?_
   ·simp only [Bool.not_eq_true',decide_eq_false_iff_not] at c3
    rw [if_neg (fun z=>c3 z.symm)] at hstep
    refine ⟨_,rfl,fun x dx' nx' nd nxd=>⟨x,dx',_,_,rfl,upd_same,rfl,mk true (by rw [hstep,if_pos rfl]) _ s4 x dx' nx' nd nxd⟩⟩
   ·simp only [Bool.not_eq_false',decide_eq_true_eq] at c3
    rw [if_pos c3.symm] at hstep
    have hM4:=hM2.same s4
    obtain ⟨ca4,sa4,dx4,hp4,hW4⟩:=ev hM4
    have hq4:(upd H3 cu (.lst (bV ((s.drop (32*k')).take 32)))) q=H3 q:=upd_ne (ne_of_none hq1 hcu)
    have hsz:(lV (zN m.circ m.key m.seed n)).length < sizeLine:=by
     have:=hM.wf.ng
     have:=hM.wf.na
     have:=hM.wf.nb
     have hin:m.circ.ins=m.circ.na+m.circ.nb:=rfl
     exact sz (m:=100) (by rw [lV_length,zN_len n hdn];omega)
    refine ⟨_,rfl,p,_,dx4,_,_,rfl,hp4,W.cl,W.na _ (by simp),hW4.fs.l,.inl ⟨rfl,_,SqL.of hM4.lab⟩,_,rfl,q,_,dg,_,_,rfl,.inl (hq4.trans hq1),T.c_GarbledGate.cl,T.c_GarbledGate.n,ggf_zero _ _,l,_,_,rfl,rfl,hM4.lab,hsz,?_⟩
    have eLc:lV (zN (m.at n).circ (m.at n).key (m.at n).seed (m.at n).done)++[V.int (ofBytes z:Nat)]=lV (zN m.circ m.key m.seed (n+1)):=by
     have hzn:zN m.circ m.key m.seed (n+1)=zN m.circ m.key m.seed n++[z]:=hzn
     rw [hzn]
     unfold lV
     rw [List.map_append]
     rfl
    rw [eLc]
    generalize hH4:upd H3 cu (.lst (bV ((s.drop (32*k')).take 32)))=H4 at hM4 s4 hq4 hp4 hW4
    have k5:Keep [l] H4 (upd H4 l (.lst (lV (zN m.circ m.key m.seed (n+1))))):=Keep.set hM4.lab (fun z=>z) (by simp)
    have hM5:MakerAt A _ p l t (m.at (n+1)):=hM4.at_ (n:=n+1) k5 hnlt upd_same
    obtain ⟨ca5,sa5,dx5,hp5,hW5⟩:=ev hM5
    refine ⟨_,rfl,_,_,rfl,rfl,fun σ' es=>?_⟩
    have e1:(k':Int)+1=((k'+1:Nat):Int):=by omega
    dsimp only at es
    rw [e1] at es
    obtain rfl:σ'=[some (.ref p),some (.ref sl),some (.int ((k'+1:Nat):Int)),some (.int ((32*k':Nat):Int)),some (.ref q)]:=es
    refine ⟨_,rfl,p,dx5,_,rfl,hp5,hW5.fs.no _ (by simp),p,ca5,sa5,l,_,_,_,_,n+1,rfl,hW5,hM5.d16,hM5.lab,hM5.len,hM5.dn,hM5.a16,fun H6 k6 hl6=>?_⟩
    have hM6:MakerAt A H6 p l t (m.at (nx m.circ (n+1))):=hM5.even k6 hl6
    have hnn:n+1<=m.circ.gates.length:=hnlt
    have hle:=nx_le hnn
    refine ⟨_,?_,nx m.circ (n+1),k'+1,_,_,rfl,rfl,(k2.trans s4.keep).trans (k5.trans k6),hM6,fixd _ hnn,by omega,?_⟩
    ·omega
    ·rw [hstep,hz _ hnn]
  ·simp only [Bool.not_eq_false',decide_eq_true_eq] at c2
   exact ⟨_,rfl,fun x dx' nx' nd nxd=>⟨x,dx',_,_,rfl,upd_same,rfl,mk false (by rw [fin (.inr c2)];rfl) _ (Same.refl _) x dx' nx' nd nxd⟩⟩
 ·rw [dF] at c1
  exact ⟨_,rfl,fun x dx' nx' nd nxd=>⟨x,dx',_,_,rfl,upd_same,rfl,mk false (by rw [fin (.inl (by omega))];rfl) _ (Same.refl _) x dx' nx' nd nxd⟩⟩
def spOT (A:Ad):Sp:=fun vs H Q _=>∃(p l t:Addr) (m:SMaker) (i:Nat) (b:Bool),vs=[.ref p,.int (i:Int),.int (b.toNat:Int)]/\MakerAt A H p l t m/\i < m.circ.ins/\Q (.bl (decide (m.told.getD i none=some (!b)))) H
theorem sc_Maker_other_is_told:FnScope ["self","i","bit","other"] ["self","i","bit"] (defScope s_Maker_other_is_told):=scB
theorem told_at {m:SMaker} {i:Nat} (h:i < m.told.length):atI (tV m.told) (i:Int)=some (.int (toldN (m.told.getD i none):Nat)):=by
 refine atI_nat ?_
 unfold tV
 rw [List.getElem?_map,List.getElem?_eq_getElem h,List.getD_eq_getElem?_getD,List.getElem?_eq_getElem h]
 rfl
theorem ok_Maker_other_is_told (T:Txt K mg A):FnOk P w K mg base CX0 1 A.f_Maker_other_is_told A.d_Maker_other_is_told ["self","i","bit"] (spOT A):=by
 refine T.Maker_other_is_told.fn.okA sc_Maker_other_is_told (fun _ _ _ _ H _ Q E hr h=>?_)
 obtain ⟨p,l,t,m,i,b,rfl,hM,hi,k⟩:=h
 refine ⟨_,(pss_cons (ps_asg (pe_ifExp (pt_cmpR op_eq (pv 2) pe_int (nomark _)) (pe_gint rfl T.i_ZERO_TOLD) (pe_gint rfl T.i_ONE_TOLD)) (pgN (i:=3) sc_Maker_other_is_told.nd rfl (Or.inl rfl)))
  (pss_one (ps_ret (pe_cmpR op_eq (pe_ix (ixL K) (fldK K (pv 0)) (pv 1) (fun _ _=>rfl)) (pv 3) (nomark _))))),?_⟩
 obtain ⟨ca,sa,hW,hS⟩:=hM.ww
 obtain ⟨dx,hp⟩:=hW.ex
 have hti:i < m.told.length:=by rw [hM.tl];exact hi
 refine ⟨_,rfl,rfl,_,rfl,?_⟩
 rw [dec1]
 have e:decide (V.int (toldN (m.told.getD i none):Nat)=V.int (if b=true then 1 else 2))=decide (m.told.getD i none=some (!b)):=by
  cases hh:m.told.getD i none with
  |none=>cases b <;> rfl
  |some c=>cases c <;> cases b <;> rfl
 cases b with
 |true=>
  refine fun σ' es=>?_
  obtain rfl:σ'=[some (.ref p),some (.int (i:Int)),some (.int ((true.toNat:Nat):Int)),some (V.int 1)]:=es
  refine ⟨_,rfl,p,_,dx,_,_,rfl,hp,T.c_Maker.cl,T.c_Maker.n,mfs_t _ _ _ _ _,_,rfl,t,_,_,_,rfl,rfl,SqL.of hM.tld,told_at hti,_,rfl,rfl,?_⟩
  rw [if_pos rfl] at e
  rw [e]
  exact k
 |false=>
  refine fun σ' es=>?_
  obtain rfl:σ'=[some (.ref p),some (.int (i:Int)),some (.int ((false.toNat:Nat):Int)),some (V.int 2)]:=es
  refine ⟨_,rfl,p,_,dx,_,_,rfl,hp,T.c_Maker.cl,T.c_Maker.n,mfs_t _ _ _ _ _,_,rfl,t,_,_,_,rfl,rfl,SqL.of hM.tld,told_at hti,_,rfl,rfl,?_⟩
  rw [if_neg (by decide)] at e
  rw [e]
  exact k
def tellM (m:SMaker) (i:Nat) (b:Bool):SMaker:=⟨m.circ,m.key,m.seed,m.zeros,m.done,m.told.set i (some b)⟩
def spTL (A:Ad):Sp:=fun vs H Q _=>∃(p l t:Addr) (m:SMaker) (i:Nat) (b:Bool),vs=[.ref p,.int (i:Int),.int (b.toNat:Int)]/\MakerAt A H p l t m/\i < m.circ.ins/\
 ∀H':Hp,Keep [t] H H'->MakerAt A H' p l t (tellM m i b)->Q (.int (ofBytes (Hush.labelOf (m.zeros.getD i []) (Hush.difference m.seed) b):Nat)) H'
theorem sc_Maker_tell_label:FnScope ["self","i","bit"] ["self","i","bit"] (defScope s_Maker_tell_label):=scB
theorem ok_Maker_tell_label (T:Txt K mg A):FnOk P w K mg base CX0 1 A.f_Maker_tell_label A.d_Maker_tell_label ["self","i","bit"] (spTL A):=by
 refine T.Maker_tell_label.fn.okA sc_Maker_tell_label (fun _ _ _ _ H _ Q E hr h=>?_)
 obtain ⟨p,l,t,m,i,b,rfl,hM,hi,k⟩:=h
 refine ⟨_,(pss_cons (ps_asg (pe_ifExp (pt_cmpR op_eq (pv 2) pe_int (nomark _)) (pe_gint rfl T.i_ONE_TOLD) (pe_gint rfl T.i_ZERO_TOLD)) (pg_sub (fldK K (pv 0)) (pv 1) set_list))
  (pss_one (ps_ret (pe_op op_xor (pe_ix (ixL K) (fldK K (pv 0)) (pv 1) (fun _ _=>rfl)) (pe_op op_mul (pv 2) (fldK K (pv 0))))))),?_⟩
 obtain ⟨ca,sa,hW,hS⟩:=hM.ww
 obtain ⟨dx,hp⟩:=hW.ex
 have hti:i < m.told.length:=by rw [hM.tl];exact hi
 have hlen:=hM.len
 have hix:ixN (tV m.told).length (i:Int)=some i:=by
  unfold ixN
  rw [if_pos (by omega),if_pos (by rw [tV_length];omega)]
  rfl
 have hset:(tV m.told).set i (V.int (toldN (some b):Nat))=tV (tellM m i b).told:=by
  unfold tV tellM
  rw [List.map_set]
 have kt:Keep [t] H (upd H t (.lst (tV (tellM m i b).told))):=Keep.set hM.tld (fun z=>z) (by simp)
 have hM':MakerAt A (upd H t (.lst (tV (tellM m i b).told))) p l t (tellM m i b):=by
  obtain ⟨dx',ca',sa',h1,h2,h3⟩:=hM.ex
  exact ⟨hM.key,hM.seed,hM.zs,hM.dn,by unfold tellM;rw [List.length_set];exact hM.tl,⟨dx',ca',sa',kt.fz h1,h2.keep kt,h3.keep kt⟩,kt.at_ hM.lab (by simp;exact hM.ne),upd_same,hM.ne⟩
 have hp':Rd (upd H t (.lst (tV (tellM m i b).told))) p (.ins A.c_Maker dx (mfs ca sa l t (Hush.difference m.seed))):=by
  rcases hp with z|⟨o,z⟩
  ·exact .inl (kt.at_ z (by simp;intro q;rw [q,hM.tld] at z;cases z))
  ·exact .inr ⟨o,kt.frz z⟩
 have hd:=hM.d16
 have hz0:(m.zeros.getD i []).length=16:=by
  rw [hM.zs,zeros_get (i:=m.done) hM.dn (by omega)]
  exact hM.a16.get (by omega)
 have ev:Builtin.bitXor ((ofBytes ((zN m.circ m.key m.seed m.done).getD i []):Nat):Int) ((b.toNat:Int)*((ofBytes (Hush.difference m.seed):Nat):Int))=((ofBytes (Hush.labelOf (m.zeros.getD i []) (Hush.difference m.seed) b):Nat):Int):=by
  rw [bmul,<-zeros_get (c:=m.circ) (key:=m.key) (seed:=m.seed) (i:=m.done) hM.dn (by omega),<-hM.zs,xb hz0 (lw hd)]
  rfl
 refine ⟨_,rfl,rfl,_,rfl,?_⟩
 rw [dec1]
 cases b with
 |true=>
  refine ⟨_,rfl,p,_,dx,_,_,rfl,hp,T.c_Maker.cl,T.c_Maker.n,mfs_t _ _ _ _ _,_,rfl,t,_,_,i,rfl,rfl,hM.tld,hix,?_⟩
  have hset':(tV m.told).set i (V.int 2)=tV (tellM m i true).told:=hset
  rw [hset']
  refine ⟨_,rfl,p,_,dx,_,_,rfl,hp',T.c_Maker.cl,T.c_Maker.n,hW.fs.l,_,rfl,l,_,_,_,rfl,rfl,SqL.of hM'.lab,lV_at (by rw [show (zN (tellM m i true).circ (tellM m i true).key (tellM m i true).seed (tellM m i true).done).length=m.circ.ins+m.done from hlen];omega),_,rfl,_,rfl,p,_,dx,_,_,rfl,hp',T.c_Maker.cl,T.c_Maker.n,hW.fs.d,_,_,rfl,rfl,.inl ⟨by decide,by decide⟩,_,_,rfl,rfl,?_⟩
  show Q (V.int (Builtin.bitXor ((ofBytes ((zN m.circ m.key m.seed m.done).getD i []):Nat):Int) (((true.toNat:Nat):Int)*((ofBytes (Hush.difference m.seed):Nat):Int)))) _
  rw [ev]
  exact k _ kt hM'
 |false=>
  refine ⟨_,rfl,p,_,dx,_,_,rfl,hp,T.c_Maker.cl,T.c_Maker.n,mfs_t _ _ _ _ _,_,rfl,t,_,_,i,rfl,rfl,hM.tld,hix,?_⟩
  have hset':(tV m.told).set i (V.int 1)=tV (tellM m i false).told:=hset
  rw [hset']
  refine ⟨_,rfl,p,_,dx,_,_,rfl,hp',T.c_Maker.cl,T.c_Maker.n,hW.fs.l,_,rfl,l,_,_,_,rfl,rfl,SqL.of hM'.lab,lV_at (by rw [show (zN (tellM m i false).circ (tellM m i false).key (tellM m i false).seed (tellM m i false).done).length=m.circ.ins+m.done from hlen];omega),_,rfl,_,rfl,p,_,dx,_,_,rfl,hp',T.c_Maker.cl,T.c_Maker.n,hW.fs.d,_,_,rfl,rfl,.inl ⟨by decide,by decide⟩,_,_,rfl,rfl,?_⟩
  show Q (V.int (Builtin.bitXor ((ofBytes ((zN m.circ m.key m.seed m.done).getD i []):Nat):Int) (((false.toNat:Nat):Int)*((ofBytes (Hush.difference m.seed):Nat):Int)))) _
  rw [ev]
  exact k _ kt hM'
open Hushwork (Answer says making)
def EndsM (A:Ad) (H:Hp) (p l t:Addr) (Q:VK) (z:SMaker×Answer):Prop:=∀(H':Hp) (q:Addr),Keep [l,t] H H'->MakerAt A H' p l t z.1->H q=none->H' q=some (.lst (ansV z.2))->Q (.ref q) H'
theorem EndsM.stay {A:Ad} {H:Hp} {p l t:Addr} {Q:VK} {m:SMaker} {a:Answer} (hM:MakerAt A H p l t m) (k:EndsM A H p l t Q (m,a)):Ends1 H Q a:=fun H' q s hq e=>k H' q s.keep (hM.same s) hq e
theorem MakerAt.ev {A:Ad} {H1:Hp} {p l t:Addr} {m1:SMaker} (h:MakerAt A H1 p l t m1):∃ca sa dx,Rd H1 p (.ins A.c_Maker dx (mfs ca sa l t (Hush.difference m1.seed)))/\WAt A A.c_Maker H1 p (mfs ca sa l t (Hush.difference m1.seed)) ca sa l m1.circ (Hush.difference m1.seed):=by
 obtain ⟨ca,sa,hW,hS⟩:=h.ww
 obtain ⟨dx,hp⟩:=hW.ex
 exact ⟨ca,sa,dx,hp,hW⟩
def spDN (A:Ad):Sp:=fun vs H Q _=>∃(p l t:Addr) (m:SMaker),vs=[.ref p]/\MakerAt A H p l t m/\Q (.int (Hushwork.one01 m.whole:Nat)) H
theorem sc_done_number:FnScope ["maker"] ["maker"] (defScope s_done_number):=scB
theorem ok_done_number (T:Txt K mg A):FnOk P w K mg base CX0 3 A.f_done_number A.d_done_number ["maker"] (spDN A):=by
 refine T.done_number.fn.okA sc_done_number (fun _ _ _ _ H _ Q E hr h=>?_)
 obtain ⟨p,l,t,m,rfl,hM,k⟩:=h
 refine ⟨_,(pss_one (ps_ret (pe_ifExp (truthK K (pe_meth0R (pv 0) (wkM T).cl (wkM T).m_all_done (ok_GateWalk_all_done T (wkM T)) (rm hr) T.GateWalk_all_done.bi .nil pass0) (fun _=>rfl)) pe_int pe_int))),?_⟩
 obtain ⟨ca,sa,dx,hp,hW⟩:=hM.ev
 refine ⟨_,rfl,p,dx,_,rfl,hp,hW.fs.no _ (by simp),p,ca,sa,l,_,_,_,_,m.done,rfl,hW,hM.lab,by rw [lV_length];exact hM.len,_,rfl,?_⟩
 unfold Hushwork.Maker.whole at k
 refine iteB (fun c=>?_) fun c=>?_
 ·rw [dT] at c
  rw [c,beq_self_eq_true] at k
  exact k
 ·rw [dF] at c
  rw [beq_eq_false_iff_ne.mpr c] at k
  exact k
def spNext (A:Ad):Sp:=fun vs H Q _=>∃(p an ar l t:Addr) (m:SMaker) (most:Nat),vs=[.ref p,.ref an,.ref ar]/\MakerAt A H p l t m/\H an=some (.lst [.int (most:Int)])/\EndsM A H p l t Q (making m (.next most))
theorem sc_answer_next:FnScope ["maker","numbers","rows","tables","told","table"] ["maker","numbers","rows"] (defScope s_answer_next):=scB
theorem flat_len {ts:List Bytes} (h:∀x∈ts,x.length=32):ts.flatten.length=32*ts.length:=by
 induction ts with
 |nil=>rfl
 |cons a r ih=>
  rw [List.flatten_cons,List.length_append,ih (fun x hx=>h x (List.mem_cons_of_mem _ hx)),h a (List.mem_cons_self ..),List.length_cons]
  omega
theorem ok_answer_next (T:Txt K mg A):FnOk P w K mg base CX0 10 A.f_answer_next A.d_answer_next ["maker","numbers","rows"] (spNext A):=by
 refine T.answer_next.fn.okA sc_answer_next (fun _ _ _ _ H _ Q E hr h=>?_)
 obtain ⟨p,an,ar,l,t,m,most,rfl,hM,hn,k⟩:=h
 refine ⟨_,(pss_cons (ps_asg (pe_methR (pv 0) (wkM T).cl (mt_Maker_tell_tables T) (ok_Maker_tell_tables T) (rm hr) T.Maker_tell_tables.bi .nil pass0 (pa_cons (pe_ix (ixL K) (pv 1) pe_int (fun _ _=>rfl)) pa_nil)) (pgN (i:=3) sc_answer_next.nd rfl (Or.inl rfl)))
  (pss_cons (ps_asg (pe_lst pa_nil) (pgN (i:=4) sc_answer_next.nd rfl (Or.inl rfl)))
  (pss_cons (ps_for PassesOwn.never rfl (pi_list (pv 3)) (pg_name (i:=5) sc_answer_next.nd rfl (Or.inl rfl)) (pss_one (ps_expr (pe_bm PySem.F.plainAttrs_list PySem.F.slot_list_extend PySem.F.type_list_extend mt_extend (pv 4) (pa_cons (pv 5) pa_nil)))))
  (pss_one (ps_ret (pe_call (ok_reply T) (rm hr) rfl T.reply.mg_ T.reply.fn.kp T.reply.bi .nil pass0 (pa_cons (pe_call (ok_done_number T) (rm hr) rfl T.done_number.mg_ T.done_number.fn.kp T.done_number.bi .nil pass0 (pa_cons (pv 0) pa_nil)) (pa_cons (pv 4) (pa_cons (pe_lst (pa_cons (pe_meth0R (pv 0) (wkM T).cl (wkM T).m_gates_done (ok_GateWalk_gates_done T (wkM T)) (rm hr) T.GateWalk_gates_done.bi .nil pass0) (pa_cons (pe_callB (lenS K) (by rfl) T.n_len PySem.boot_len (pa_cons (pv 3) pa_nil)) pa_nil))) pa_nil))))))))),?_⟩
 obtain ⟨ca,sa,dx,hp,hW⟩:=hM.ev
 refine ⟨_,rfl,p,dx,_,rfl,hp,mfs_no _ _ _ _ _ (by decide+kernel),_,rfl,an,_,_,_,rfl,rfl,SqL.of hn,rfl,p,l,t,m,most,rfl,hM,fun H1 tb k1 hM1 hR htb h32 hcnt σ' es=>?_⟩
 obtain rfl:σ'=[some (.ref p),some (.ref an),some (.ref ar),some (.ref tb),none,none]:=es
 have hmk:making m (.next most)=(m.at (m.tables m.ahead most m.done).2,⟨((Hushwork.one01 (m.at (m.tables m.ahead most m.done).2).whole:Nat):Int),(m.tables m.ahead most m.done).1.flatMap id,Hushwork.ints [(m.tables m.ahead most m.done).2,(m.tables m.ahead most m.done).1.length]⟩):=rfl
 rw [hmk] at k
 generalize m.tables m.ahead most m.done=z at hM1 hR h32 hcnt k
 obtain ⟨ts,n⟩:=z
 dsimp only at hM1 hR h32 hcnt k
 obtain ⟨h0,as,hr1,hr2,hr3,hr4⟩:=hR
 have hal:as.length=ts.length:=by rw [hr2,List.length_map]
 refine ⟨Nat.zero_le _,fun q1 hq1 σ' es=>?_⟩
 obtain rfl:σ'=[some (.ref p),some (.ref an),some (.ref ar),some (.ref tb),some (.ref q1),none]:=es
 have s0:Same H1 (upd H1 q1 (.lst [])):=Same.new hq1
 refine ⟨_,rfl,tb,rfl,⟨_,SqL.of (s0 _ _ hr1)⟩,?_⟩
 refine for_list (K:=K) (a:=tb) (xs:=as.map V.ref) (fun i σ H2=>∃v,σ=[some (.ref p),some (.ref an),some (.ref ar),some (.ref tb),some (.ref q1),v]/\Same H1 H2/\H2 q1=some (.lst (bV (ts.take i).flatten))) ⟨none,rfl,s0,upd_same⟩ (fun i σ H2 _ ⟨_,_,s2,_⟩=>SqL.of (s2 _ _ hr1)) ?_ ?_
 ·rintro i u σ H2 hu ⟨v,rfl,s2,hq2⟩
  obtain ⟨a,ha,rfl⟩:=refs_get hu
  have hi:i < ts.length:=by rw [<-hal];exact (List.getElem?_eq_some_iff.mp ha).1
  have hti:ts[i]?=some ts[i]:=List.getElem?_eq_getElem hi
  have hai:=s2 _ _ (hr4 i a (bV ts[i]) ha (by rw [List.getElem?_map,hti];rfl))
  have hfl:(ts.take i).flatten.length=32*i:=by
   rw [flat_len (fun x hx=>h32 x (List.mem_of_mem_take hx)),List.length_take]
   omega
  refine ⟨_,rfl,.inl ⟨rfl,_,SqL.of hq2⟩,_,rfl,q1,a,_,_,rfl,rfl,hq2,hai,?_,_,rfl,Same.young s2 hq1,?_⟩
  ·rw [bV_length,bV_length,hfl,h32 _ (List.getElem_mem hi),sizeLine_eq]
   omega
  ·rw [upd_same,take_snoc hti,List.flatten_append,bV_append]
   simp only [List.flatten_cons,List.flatten_nil,List.append_nil]
 ·rintro σ H2 ⟨v,rfl,s2,hq2⟩
  rw [List.length_map,hal,List.take_length] at hq2
  have hM2:=hM1.same s2
  obtain ⟨ca2,sa2,dx2,hp2,hW2⟩:=hM2.ev
  refine ⟨_,rfl,p,l,t,_,rfl,hM2,_,rfl,_,rfl,p,dx2,_,rfl,hp2,hW2.fs.no _ (by simp),p,ca2,sa2,l,_,_,_,_,n,rfl,hW2,hM2.lab,by rw [lV_length];exact hM2.len,_,rfl,tb,_,rfl,.inl (SqL.of (s2 _ _ hr1)),by show 2<=sizeLine;decide,fun q3 hq3=>?_⟩
  have hq13:q1≠q3:=ne_of_none hq2 hq3
  have s3:=Same.tn s2 hq3 (.lst [.int (n:Int),.int (((as.map V.ref).length:Nat):Int)])
  have hfl:ts.flatten.length=32*ts.length:=flat_len h32
  refine ⟨_,q1,q3,_,_,rfl,by rw [upd_ne hq13];exact hq2,upd_same,?_,(by show 2<=2000;decide),fun H4 q4 s4 hq4 e=>?_⟩
  ·rw [bV_length,hfl]
   omega
  have s14:=s3.trans s4
  have q40:H q4=none:=by
   have h9:=s3.free hq4
   cases e9:H q4 with
   |none=>rfl
   |some o=>
    by_cases hi:q4=l
    ·have:=hM1.lab
     rw [<-hi,h9] at this
     cases this
    ·have:=k1.at_ e9 (by simp;exact hi)
     rw [h9] at this
     cases this
  refine k H4 q4 ((k1.mono (by simp)).trans s14.keep) (hM1.same s14) q40 ?_
  rw [e,List.length_map,hal]
  refine congrArg (fun z=>some (HO.lst z)) ?_
  rw [List.flatMap_id]
  exact rep_ans _ ts.flatten [(n:Int),(ts.length:Int)]
def spMatch (A:Ad):Sp:=fun vs H Q _=>∃(p an ar l t:Addr) (m:SMaker) (s:Bytes),vs=[.ref p,.ref an,.ref ar]/\MakerAt A H p l t m/\RowsOff [l,t] H ar [bV s]/\EndsM A H p l t Q (making m (.match_ s))
theorem sc_answer_match:FnScope ["maker","numbers","rows","stream","comparison","number"] ["maker","numbers","rows"] (defScope s_answer_match):=scB
theorem RowsOff.row {F:List Addr} {H:Hp} {a:Addr} {rs:List (List V)} (h:RowsOff F H a rs) {i:Nat} {r:List V} (hr:rs[i]?=some r) {z:Int} (hz:z=(i:Int)):
  ∃xs p,H a=some (.lst xs)/\atI xs z=some (V.ref p)/\H p=some (.lst r)/\p∉F:=by
 obtain ⟨h0,as,h1,h2,h3,h4⟩:=h
 have hi:i < as.length:=by rw [h2];exact (List.getElem?_eq_some_iff.mp hr).1
 refine ⟨_,as[i],h1,at_of hz ?_,h4 i _ r (List.getElem?_eq_getElem hi) hr,h3 _ (List.getElem_mem hi)⟩
 rw [List.getElem?_map,List.getElem?_eq_getElem hi]
 rfl
theorem ok_answer_match (T:Txt K mg A):FnOk P w K mg base CX0 10 A.f_answer_match A.d_answer_match ["maker","numbers","rows"] (spMatch A):=by
 refine T.answer_match.fn.okA sc_answer_match (fun _ _ _ _ H _ Q E hr h=>?_)
 obtain ⟨p,an,ar,l,t,m,s,rfl,hM,hR,k⟩:=h
 refine ⟨_,(pss_cons (ps_asg (pe_ix (ixL K) (pv 2) pe_int (fun _ _=>rfl)) (pgN (i:=3) sc_answer_match.nd rfl (Or.inl rfl)))
  (pss_cons (ps_if (pt_cmpR op_gt (pe_callB (lenS K) (by rfl) T.n_len PySem.boot_len (pa_cons (pv 3) pa_nil)) (pe_gint rfl T.i_LONGEST_PIECE) (nomark _)) (pss_one (ps_ret (pe_call (ok_refusal T) (rm hr) rfl T.refusal.mg_ T.refusal.fn.kp T.refusal.bi .nil pass0 (pa_cons (pe_un un_neg pe_int) pa_nil)))) pss_nil)
  (pss_cons (ps_if (pt_cmpR op_ne (pe_op op_mod (pe_callB (lenS K) (by rfl) T.n_len PySem.boot_len (pa_cons (pv 3) pa_nil)) (pe_gint rfl T.i_TABLE_BYTES)) pe_int (nomark _)) (pss_one (ps_ret (pe_call (ok_refusal T) (rm hr) rfl T.refusal.mg_ T.refusal.fn.kp T.refusal.bi .nil pass0 (pa_cons (pe_un un_neg pe_int) pa_nil)))) pss_nil)
  (pss_cons (ps_asg (pe_methR (pv 0) (wkM T).cl (mt_Maker_match_tables T) (ok_Maker_match_tables T) (rm hr) T.Maker_match_tables.bi .nil pass0 (pa_cons (pv 3) pa_nil)) (pgN (i:=4) sc_answer_match.nd rfl (Or.inl rfl)))
  (pss_cons (ps_asg (pe_ifExp (truthK K (fldK K (pv 4)) (fun _=>rfl)) pe_int (pe_call (ok_done_number T) (rm hr) rfl T.done_number.mg_ T.done_number.fn.kp T.done_number.bi .nil pass0 (pa_cons (pv 0) pa_nil))) (pgN (i:=5) sc_answer_match.nd rfl (Or.inl rfl)))
  (pss_one (ps_ret (pe_call (ok_reply T) (rm hr) rfl T.reply.mg_ T.reply.fn.kp T.reply.bi .nil pass0 (pa_cons (pv 5) (pa_cons (pe_lst pa_nil) (pa_cons (pe_lst (pa_cons (pe_meth0R (pv 0) (wkM T).cl (wkM T).m_gates_done (ok_GateWalk_gates_done T (wkM T)) (rm hr) T.GateWalk_gates_done.bi .nil pass0) (pa_cons (fldK K (pv 4)) pa_nil))) pa_nil))))))))))),?_⟩
 obtain ⟨ca,sa,dx,hp,hW⟩:=hM.ev
 obtain ⟨xs,sl,h1,h2,h3,h4⟩:=hR.row (i:=0) rfl (z:=0) rfl
 have hsl:sl≠l:=fun z=>h4 (by simp [z])
 refine ⟨_,rfl,ar,_,_,_,rfl,rfl,SqL.of h1,h2,fun σ' es=>?_⟩
 obtain rfl:σ'=[some (.ref p),some (.ref an),some (.ref ar),some (.ref sl),none,none]:=es
 have hmk:making m (.match_ s)=if Hushwork.STREAM < s.length then (m,says (-2)) else if s.length % 32≠0 then (m,says (-1)) else (m.at (m.same m.ahead s m.done 0).2.1,Hushwork.tells (m.same m.ahead s m.done 0).1 [(m.same m.ahead s m.done 0).2.1,(m.same m.ahead s m.done 0).2.2]):=rfl
 rw [hmk] at k
 refine ⟨_,rfl,sl,_,rfl,.inl (SqL.of h3),_,_,rfl,rfl,_,rfl,?_⟩
 rw [bV_length]
 refine iteB (fun c=>?_) fun c=>?_
 ·rw [dT] at c
  rw [if_pos (by show 2048 < _;omega)] at k
  exact ⟨_,rfl,_,rfl,fun H' q s1 hq e=>EndsM.stay hM k H' q s1 hq (by rw [<-rep_says];exact e)⟩
 ·rw [dF] at c
  rw [if_neg (by show ¬2048 < _;omega)] at k
  refine ⟨_,rfl,sl,_,rfl,.inl (SqL.of h3),_,_,rfl,rfl,(by show (0:Int) < 32;decide),rfl,_,rfl,?_⟩
  rw [bV_length]
  dsimp only
  refine iteB (fun c2=>?_) fun c2=>?_
  ·have c2':s.length % 32≠0:=fun z=>by
    simp only [Bool.not_eq_true',decide_eq_false_iff_not] at c2
    exact c2 (congrArg V.int (show ((s.length:Nat):Int) % 32=0 by omega))
   rw [if_pos c2'] at k
   exact ⟨_,rfl,_,rfl,fun H' q s1 hq e=>EndsM.stay hM k H' q s1 hq (by rw [<-rep_says];exact e)⟩
  ·have c2':s.length % 32=0:=by
    simp only [Bool.not_eq_false',decide_eq_true_eq,V.int.injEq] at c2
    omega
   rw [if_neg (by simp [c2'])] at k
   refine ⟨_,rfl,p,dx,_,rfl,hp,mfs_no _ _ _ _ _ (by decide+kernel),_,rfl,p,l,t,sl,m,s,rfl,hM,h3,hsl,c2',by omega,fun H1 q dq b k1 hM1 hq hqn hval σ' es=>?_⟩
   generalize m.same m.ahead s m.done 0=z at hM1 hq hval k
   obtain ⟨a,n,kk⟩:=z
   dsimp only at hM1 hq hval k
   obtain rfl:σ'=[some (.ref p),some (.ref an),some (.ref ar),some (.ref sl),some (.ref q),none]:=es
   have hMw:(m.at n).whole=decide (n=m.circ.gates.length):=by
    unfold Hushwork.Maker.whole
    by_cases hc:n=m.circ.gates.length
    ·rw [decide_eq_true hc]
     exact beq_iff_eq.mpr hc
    ·rw [decide_eq_false hc]
     exact beq_eq_false_iff_ne.mpr hc
   have fin:∀(H2:Hp) (q2 q3:Addr),Same H1 H2->H2 q2=some (.lst (repV a [] [.int (n:Int),.int (kk:Int)]))->H1 q2=none->Q (.ref q2) H2:=fun H2 q2 q3 s2 e e0=>by
    have q40:H q2=none:=by
     cases e9:H q2 with
     |none=>rfl
     |some o=>
      by_cases hi:q2=l
      ·have:=hM1.lab
       rw [<-hi,e0] at this
       cases this
      ·have:=k1.at_ e9 (by simp;exact hi)
       rw [e0] at this
       cases this
    refine k H2 q2 ((k1.mono (by simp)).trans s2.keep) (hM1.same s2) q40 ?_
    rw [e]
    exact congrArg (fun z=>some (HO.lst z)) (rep_ans a [] [(n:Int),(kk:Int)])
   obtain ⟨ca2,sa2,dx2,hp2,hW2⟩:=hM1.ev
   have cs:=cmf_s (.int (kk:Int)) (.bl b)
   have rest:∀σ',σ'=([some (.ref p),some (.ref an),some (.ref ar),some (.ref sl),some (.ref q),some (.int a)]:L2.St)->tRet (tCall spReply [] E0 (tCons (tVar 5) (tCons (tLst tNil) (tCons (tLst (tCons (tMethR A.c_Maker "gates_done" (spGD A A.c_Maker) [] E0 (tVar 0) tNil) (tCons (tFldR K (tVar 4) "same") tNil))) tNil)))) {nx:=fun _ H'=>Q .non H',rt:=Q} σ' H1:=fun σ' e=>by
    subst e
    refine ⟨_,rfl,Nat.zero_le _,fun q5 hq5=>?_⟩
    have s5:Same H1 (upd H1 q5 (.lst [])):=Same.new hq5
    have hM5:=hM1.same s5
    obtain ⟨ca5,sa5,dx5,hp5,hW5⟩:=hM5.ev
    refine ⟨_,rfl,p,dx5,_,rfl,hp5,hW5.fs.no _ (by simp),p,ca5,sa5,l,_,_,_,_,n,rfl,hW5,hM5.lab,by rw [lV_length];exact hM5.len,_,rfl,q,_,dq,_,_,rfl,.inl (s5 _ _ hq),T.c_Comparison.cl,T.c_Comparison.n,cs,by show 2<=sizeLine;decide,fun q6 hq6=>?_⟩
    have h56:q5≠q6:=(upd_none hq6).2.symm
    have s6:=Same.tn s5 hq6 (.lst [.int (n:Int),.int (kk:Int)])
    refine ⟨a,q5,q6,[],_,rfl,by rw [upd_ne h56];exact upd_same,upd_same,(by show 0<=2000;decide),(by show 2<=2000;decide),fun H7 q7 s7 hq7 e=>fin H7 q7 q7 (s6.trans s7) e (s6.free hq7)⟩
   refine ⟨_,rfl,q,_,dq,_,_,rfl,.inl hq,T.c_Comparison.cl,T.c_Comparison.n,cmf_d _ _,_,rfl,iteB (fun cb=>?_) fun cb=>?_⟩
   ·rw [if_pos cb] at hval
    refine fun σ' es=>?_
    refine rest σ' ?_
    rw [es,hval]
    rfl
   ·rw [if_neg (by rw [cb];decide)] at hval
    refine ⟨_,rfl,p,l,t,_,rfl,hM1,fun σ' es=>?_⟩
    refine rest σ' ?_
    rw [es,hval,hMw]
    unfold Hushwork.one01
    by_cases hc:n=m.circ.gates.length
    ·rw [decide_eq_true hc,if_pos rfl,if_pos hc]
     rfl
    ·rw [decide_eq_false hc,if_neg (by decide),if_neg hc]
     rfl
def spTell (A:Ad):Sp:=fun vs H Q _=>∃(p an ar l t:Addr) (m:SMaker) (i b:Nat),vs=[.ref p,.ref an,.ref ar]/\MakerAt A H p l t m/\H an=some (.lst [.int (i:Int),.int (b:Int)])/\EndsM A H p l t Q (making m (.tell i b))
theorem sc_answer_tell:FnScope ["maker","numbers","rows","i","bit"] ["maker","numbers","rows"] (defScope s_answer_tell):=scB
theorem ok_answer_tell (T:Txt K mg A):FnOk P w K mg base CX0 3 A.f_answer_tell A.d_answer_tell ["maker","numbers","rows"] (spTell A):=by
 refine T.answer_tell.fn.okA sc_answer_tell (fun _ _ _ _ H _ Q E hr h=>?_)
 obtain ⟨p,an,ar,l,t,m,i,b,rfl,hM,hn,k⟩:=h
 refine ⟨_,(pss_cons (ps_asg (pe_ix (ixL K) (pv 1) pe_int (fun _ _=>rfl)) (pgN (i:=3) sc_answer_tell.nd rfl (Or.inl rfl)))
  (pss_cons (ps_asg (pe_ix (ixL K) (pv 1) pe_int (fun _ _=>rfl)) (pgN (i:=4) sc_answer_tell.nd rfl (Or.inl rfl)))
  (pss_cons (ps_if (PW.pt (pw_or (pt_not (truthK K (pe_methR (pv 0) (wkM T).cl (wkM T).m_has_input (ok_GateWalk_has_input T (wkM T)) (rm hr) T.GateWalk_has_input.bi .nil pass0 (pa_cons (pv 3) pa_nil)) (fun _=>rfl))) (pw_or1 (pt_cmpR op_gt (pv 4) pe_int (nomark _))))) (pss_one (ps_ret (pe_call (ok_refusal T) (rm hr) rfl T.refusal.mg_ T.refusal.fn.kp T.refusal.bi .nil pass0 (pa_cons (pe_un un_neg pe_int) pa_nil)))) pss_nil)
  (pss_cons (ps_if (truthK K (pe_methR (pv 0) (wkM T).cl (mt_Maker_other_is_told T) (ok_Maker_other_is_told T) (rm hr) T.Maker_other_is_told.bi .nil pass0 (pa_cons (pv 3) (pa_cons (pv 4) pa_nil))) (fun _=>rfl)) (pss_one (ps_ret (pe_call (ok_refusal T) (rm hr) rfl T.refusal.mg_ T.refusal.fn.kp T.refusal.bi .nil pass0 (pa_cons (pe_un un_neg pe_int) pa_nil)))) pss_nil)
  (pss_one (ps_ret (pe_call (ok_reply T) (rm hr) rfl T.reply.mg_ T.reply.fn.kp T.reply.bi .nil pass0 (pa_cons pe_int (pa_cons (pe_call (ok_row_of T) (rm hr) rfl T.row_of.mg_ T.row_of.fn.kp T.row_of.bi .nil pass0 (pa_cons (pe_methR (pv 0) (wkM T).cl (mt_Maker_tell_label T) (ok_Maker_tell_label T) (rm hr) T.Maker_tell_label.bi .nil pass0 (pa_cons (pv 3) (pa_cons (pv 4) pa_nil))) pa_nil)) (pa_cons (pe_lst pa_nil) pa_nil)))))))))),?_⟩
 obtain ⟨ca,sa,dx,hp,hW⟩:=hM.ev
 have hmk:making m (.tell i b)=if m.circ.ins<=i\/1 < b then (m,says (-3)) else if m.told.getD i none=some (b == 0) then (m,says (-4)) else (tellM m i (b == 1),⟨0,Hush.labelOf (m.zeros.getD i []) (Hush.difference m.seed) (b == 1),[]⟩):=rfl
 rw [hmk] at k
 refine ⟨_,rfl,an,_,_,_,rfl,rfl,SqL.of hn,rfl,fun σ' es=>?_⟩
 obtain rfl:σ'=[some (.ref p),some (.ref an),some (.ref ar),some (.int (i:Int)),none]:=es
 refine ⟨_,rfl,an,_,_,_,rfl,rfl,SqL.of hn,rfl,fun σ' es=>?_⟩
 obtain rfl:σ'=[some (.ref p),some (.ref an),some (.ref ar),some (.int (i:Int)),some (.int (b:Int))]:=es
 refine ⟨_,rfl,p,dx,_,rfl,hp,hW.fs.no _ (by simp),_,rfl,p,ca,sa,l,_,_,_,i,rfl,hW,_,rfl,?_⟩
 refine iteB (fun c=>?_) fun c=>?_
 ·simp only [Bool.not_eq_true',decide_eq_false_iff_not] at c
  rw [if_pos (.inl (by omega))] at k
  exact ⟨_,rfl,_,rfl,fun H' q s1 hq e=>EndsM.stay hM k H' q s1 hq (by rw [<-rep_says];exact e)⟩
 ·simp only [Bool.not_eq_false',decide_eq_true_eq] at c
  refine ⟨_,rfl,_,_,rfl,rfl,_,rfl,iteB (fun c2=>?_) fun c2=>?_⟩
  ·rw [dT] at c2
   rw [if_pos (.inr (by omega))] at k
   exact ⟨_,rfl,_,rfl,fun H' q s1 hq e=>EndsM.stay hM k H' q s1 hq (by rw [<-rep_says];exact e)⟩
  ·rw [dF] at c2
   have hb:b<=1:=by omega
   rw [if_neg (by omega)] at k
   obtain ⟨bb,rfl⟩:∃bb:Bool,b=bb.toNat:=by
    match b,hb with
    |0,_=>exact ⟨false,rfl⟩
    |1,_=>exact ⟨true,rfl⟩
   have e0:(bb.toNat == 0)=!bb:=by cases bb <;> rfl
   have e1:(bb.toNat == 1)=bb:=by cases bb <;> rfl
   rw [e0,e1] at k
   refine ⟨_,rfl,p,dx,_,rfl,hp,mfs_no _ _ _ _ _ (by decide+kernel),_,rfl,_,rfl,p,l,t,m,i,bb,rfl,hM,c,_,rfl,iteB (fun c3=>?_) fun c3=>?_⟩
   ·rw [dT] at c3
    rw [if_pos c3] at k
    exact ⟨_,rfl,_,rfl,fun H' q s1 hq e=>EndsM.stay hM k H' q s1 hq (by rw [<-rep_says];exact e)⟩
   ·rw [dF] at c3
    rw [if_neg c3] at k
    refine ⟨_,rfl,p,dx,_,rfl,hp,mfs_no _ _ _ _ _ (by decide+kernel),_,rfl,_,rfl,p,l,t,m,i,bb,rfl,hM,c,fun H1 k1 hM1=>⟨_,rfl,fun q1 hq1=>⟨Nat.zero_le _,fun q2 hq2=>?_⟩⟩⟩
    have hz0:(m.zeros.getD i []).length=16:=by
     have hlen:=hM.len
     rw [hM.zs,zeros_get (i:=m.done) hM.dn (by omega)]
     exact hM.a16.get (by omega)
    have hll:(Hush.labelOf (m.zeros.getD i []) (Hush.difference m.seed) bb).length=16:=la hz0 (lw hM.d16)
    have h12:q1≠q2:=(upd_none hq2).2.symm
    rw [HM.toBytes16 hll] at hq2 ⊢
    have tt:=Same.tn (Same.new hq1 (o:=.lst (bV (Hush.labelOf (m.zeros.getD i []) (Hush.difference m.seed) bb)))) hq2 (.lst [])
    refine ⟨0,q1,q2,_,[],rfl,by rw [upd_ne h12];exact upd_same,upd_same,?_,Nat.zero_le _,fun H' q s2 hq e=>?_⟩
    ·rw [bV_length,hll];decide
    rw [rep_bytes] at e
    have ss:=tt.trans s2
    have q0:H q=none:=by
     have h9:=tt.free hq
     cases e9:H q with
     |none=>rfl
     |some o=>
      by_cases hi:q=t
      ·have:=hM1.tld
       rw [<-hi,h9] at this
       cases this
      ·have:=k1.at_ e9 (by simp;exact hi)
       rw [h9] at this
       cases this
    exact k H' q ((k1.mono (by simp)).trans ss.keep) (hM1.same ss) q0 e
def spTold (A:Ad):Sp:=fun vs H Q _=>∃(p an ar l t:Addr) (m:SMaker) (i:Nat),vs=[.ref p,.ref an,.ref ar]/\MakerAt A H p l t m/\H an=some (.lst [.int (i:Int)])/\EndsM A H p l t Q (making m (.told i))
theorem sc_answer_told:FnScope ["maker","numbers","rows","i"] ["maker","numbers","rows"] (defScope s_answer_told):=scB
theorem ok_answer_told (T:Txt K mg A):FnOk P w K mg base CX0 3 A.f_answer_told A.d_answer_told ["maker","numbers","rows"] (spTold A):=by
 refine T.answer_told.fn.okA sc_answer_told (fun _ _ _ _ H _ Q E hr h=>?_)
 obtain ⟨p,an,ar,l,t,m,i,rfl,hM,hn,k⟩:=h
 refine ⟨_,(pss_cons (ps_asg (pe_ix (ixL K) (pv 1) pe_int (fun _ _=>rfl)) (pgN (i:=3) sc_answer_told.nd rfl (Or.inl rfl)))
  (pss_cons (ps_if (pt_not (truthK K (pe_methR (pv 0) (wkM T).cl (wkM T).m_has_input (ok_GateWalk_has_input T (wkM T)) (rm hr) T.GateWalk_has_input.bi .nil pass0 (pa_cons (pv 3) pa_nil)) (fun _=>rfl))) (pss_one (ps_ret (pe_call (ok_refusal T) (rm hr) rfl T.refusal.mg_ T.refusal.fn.kp T.refusal.bi .nil pass0 (pa_cons (pe_un un_neg pe_int) pa_nil)))) pss_nil)
  (pss_one (ps_ret (pe_call (ok_reply T) (rm hr) rfl T.reply.mg_ T.reply.fn.kp T.reply.bi .nil pass0 (pa_cons (pe_ix (ixL K) (fldK K (pv 0)) (pv 3) (fun _ _=>rfl)) (pa_cons (pe_lst pa_nil) (pa_cons (pe_lst pa_nil) pa_nil)))))))),?_⟩
 obtain ⟨ca,sa,dx,hp,hW⟩:=hM.ev
 refine ⟨_,rfl,an,_,_,_,rfl,rfl,SqL.of hn,rfl,fun σ' es=>?_⟩
 obtain rfl:σ'=[some (.ref p),some (.ref an),some (.ref ar),some (.int (i:Int))]:=es
 refine ⟨_,rfl,p,dx,_,rfl,hp,hW.fs.no _ (by simp),_,rfl,p,ca,sa,l,_,_,_,i,rfl,hW,_,rfl,?_⟩
 have k1:=EndsM.stay hM k
 refine iteB (fun c=>?_) fun c=>?_
 ·simp only [Bool.not_eq_true',decide_eq_false_iff_not] at c
  rw [if_pos (by omega)] at k1
  exact ⟨_,rfl,_,rfl,fun H' q s1 hq e=>k1 H' q s1 hq (by rw [<-rep_says];exact e)⟩
 ·simp only [Bool.not_eq_false',decide_eq_true_eq] at c
  rw [if_neg (by omega)] at k1
  have hti:i < m.told.length:=by rw [hM.tl];exact c
  refine ⟨_,rfl,p,_,dx,_,_,rfl,hp,T.c_Maker.cl,T.c_Maker.n,mfs_t _ _ _ _ _,_,rfl,t,_,_,_,rfl,rfl,SqL.of hM.tld,told_at hti,Nat.zero_le _,fun q1 hq1=>⟨Nat.zero_le _,fun q2 hq2=>?_⟩⟩
  have h12:q1≠q2:=(upd_none hq2).2.symm
  have tt:=Same.tn (Same.new hq1 (o:=.lst [])) hq2 (.lst [])
  refine ⟨_,q1,q2,[],[],rfl,by rw [upd_ne h12];exact upd_same,upd_same,Nat.zero_le _,Nat.zero_le _,fun H' q s2 hq e=>?_⟩
  rw [rep_says] at e
  refine k1 H' q (tt.trans s2) (tt.free hq) ?_
  rw [e]
  refine congrArg (fun z=>some (HO.lst (ansV (says z)))) ?_
  cases hh:m.told.getD i none with
  |none=>rfl
  |some c=>cases c <;> rfl
def spDone (A:Ad):Sp:=fun vs H Q _=>∃(p l t:Addr) (an ar:V) (m:SMaker),vs=[.ref p,an,ar]/\MakerAt A H p l t m/\EndsM A H p l t Q (making m .done)
theorem sc_answer_done:FnScope ["maker","numbers","rows"] ["maker","numbers","rows"] (defScope s_answer_done):=scB
theorem ok_answer_done (T:Txt K mg A):FnOk P w K mg base CX0 3 A.f_answer_done A.d_answer_done ["maker","numbers","rows"] (spDone A):=by
 refine T.answer_done.fn.okA sc_answer_done (fun _ _ _ _ H _ Q E hr h=>?_)
 obtain ⟨p,l,t,an,ar,m,rfl,hM,k⟩:=h
 refine ⟨_,(pss_one (ps_ret (pe_call (ok_reply T) (rm hr) rfl T.reply.mg_ T.reply.fn.kp T.reply.bi .nil pass0 (pa_cons (pe_meth0R (pv 0) (wkM T).cl (wkM T).m_gates_done (ok_GateWalk_gates_done T (wkM T)) (rm hr) T.GateWalk_gates_done.bi .nil pass0) (pa_cons (pe_lst pa_nil) (pa_cons (pe_lst pa_nil) pa_nil)))))),?_⟩
 obtain ⟨ca,sa,dx,hp,hW⟩:=hM.ev
 have k1:=EndsM.stay hM k
 refine ⟨_,rfl,p,dx,_,rfl,hp,hW.fs.no _ (by simp),p,ca,sa,l,_,_,_,_,m.done,rfl,hW,hM.lab,by rw [lV_length];exact hM.len,Nat.zero_le _,fun q1 hq1=>⟨Nat.zero_le _,fun q2 hq2=>?_⟩⟩
 have h12:q1≠q2:=(upd_none hq2).2.symm
 have tt:=Same.tn (Same.new hq1 (o:=.lst [])) hq2 (.lst [])
 refine ⟨_,q1,q2,[],[],rfl,by rw [upd_ne h12];exact upd_same,upd_same,Nat.zero_le _,Nat.zero_le _,fun H' q s2 hq e=>?_⟩
 rw [rep_says] at e
 exact k1 H' q (tt.trans s2) (tt.free hq) e
def spHint (A:Ad):Sp:=fun vs H Q _=>∃(p an ar l t:Addr) (m:SMaker) (j:Nat),vs=[.ref p,.ref an,.ref ar]/\MakerAt A H p l t m/\H an=some (.lst [.int (j:Int)])/\EndsM A H p l t Q (making m (.hint j))
theorem sc_answer_hint:FnScope ["maker","numbers","rows","j"] ["maker","numbers","rows"] (defScope s_answer_hint):=scB
theorem whole_iff {m:SMaker}:m.whole=decide (m.done=m.circ.gates.length):=by
 unfold Hushwork.Maker.whole
 by_cases hc:m.done=m.circ.gates.length
 ·rw [decide_eq_true hc]
  exact beq_iff_eq.mpr hc
 ·rw [decide_eq_false hc]
  exact beq_eq_false_iff_ne.mpr hc
theorem zeroOf_eq {A:Ad} {H:Hp} {p l t:Addr} {m:SMaker} (hM:MakerAt A H p l t m) (hd:m.done=m.circ.gates.length) (j:Nat):(zN m.circ m.key m.seed m.done).getD (Hushwork.wire m.circ j) []=m.zeroOf j:=by
 unfold Hushwork.Maker.zeroOf
 rw [hM.zs,hd,zN_all]
theorem ok_answer_hint (T:Txt K mg A):FnOk P w K mg base CX0 3 A.f_answer_hint A.d_answer_hint ["maker","numbers","rows"] (spHint A):=by
 refine T.answer_hint.fn.okA sc_answer_hint (fun _ _ _ _ H _ Q E hr h=>?_)
 obtain ⟨p,an,ar,l,t,m,j,rfl,hM,hn,k⟩:=h
 refine ⟨_,(pss_cons (ps_asg (pe_ix (ixL K) (pv 1) pe_int (fun _ _=>rfl)) (pgN (i:=3) sc_answer_hint.nd rfl (Or.inl rfl)))
  (pss_cons (ps_if (pt_not (truthK K (pe_methR (pv 0) (wkM T).cl (wkM T).m_has_output (ok_GateWalk_has_output T (wkM T)) (rm hr) T.GateWalk_has_output.bi .nil pass0 (pa_cons (pv 3) pa_nil)) (fun _=>rfl))) (pss_one (ps_ret (pe_call (ok_refusal T) (rm hr) rfl T.refusal.mg_ T.refusal.fn.kp T.refusal.bi .nil pass0 (pa_cons (pe_un un_neg pe_int) pa_nil)))) pss_nil)
  (pss_cons (ps_if (pt_not (truthK K (pe_meth0R (pv 0) (wkM T).cl (wkM T).m_all_done (ok_GateWalk_all_done T (wkM T)) (rm hr) T.GateWalk_all_done.bi .nil pass0) (fun _=>rfl))) (pss_one (ps_ret (pe_call (ok_refusal T) (rm hr) rfl T.refusal.mg_ T.refusal.fn.kp T.refusal.bi .nil pass0 (pa_cons (pe_un un_neg pe_int) pa_nil)))) pss_nil)
  (pss_one (ps_ret (pe_call (ok_reply T) (rm hr) rfl T.reply.mg_ T.reply.fn.kp T.reply.bi .nil pass0 (pa_cons (pe_call (ok_colour T) (rm hr) rfl T.colour.mg_ T.colour.fn.kp T.colour.bi .nil pass0 (pa_cons (pe_methR (pv 0) (wkM T).cl (wkM T).m_output_label (ok_GateWalk_output_label T (wkM T)) (rm hr) T.GateWalk_output_label.bi .nil pass0 (pa_cons (pv 3) pa_nil)) pa_nil)) (pa_cons (pe_lst pa_nil) (pa_cons (pe_lst pa_nil) pa_nil))))))))),?_⟩
 obtain ⟨ca,sa,dx,hp,hW⟩:=hM.ev
 refine ⟨_,rfl,an,_,_,_,rfl,rfl,SqL.of hn,rfl,fun σ' es=>?_⟩
 obtain rfl:σ'=[some (.ref p),some (.ref an),some (.ref ar),some (.int (j:Int))]:=es
 refine ⟨_,rfl,p,dx,_,rfl,hp,hW.fs.no _ (by simp),_,rfl,p,ca,sa,l,_,_,_,j,rfl,hW,_,rfl,?_⟩
 have k1:Ends1 H Q (m.ofOut j (says (Hushwork.one01 (Hush.colour (m.zeroOf j)):Nat))):=EndsM.stay hM k
 unfold Hushwork.Maker.ofOut at k1
 refine iteB (fun c=>?_) fun c=>?_
 ·simp only [Bool.not_eq_true',decide_eq_false_iff_not] at c
  rw [if_pos (by omega)] at k1
  exact ⟨_,rfl,_,rfl,fun H' q s1 hq e=>k1 H' q s1 hq (by rw [<-rep_says];exact e)⟩
 ·simp only [Bool.not_eq_false',decide_eq_true_eq] at c
  rw [if_neg (by omega),whole_iff] at k1
  refine ⟨_,rfl,p,dx,_,rfl,hp,hW.fs.no _ (by simp),p,ca,sa,l,_,_,_,_,m.done,rfl,hW,hM.lab,by rw [lV_length];exact hM.len,_,rfl,iteB (fun c2=>?_) fun c2=>?_⟩
  ·simp only [Bool.not_eq_true'] at c2
   rw [if_pos c2] at k1
   exact ⟨_,rfl,_,rfl,fun H' q s1 hq e=>k1 H' q s1 hq (by rw [<-rep_says];exact e)⟩
  ·simp only [Bool.not_eq_false',decide_eq_true_eq] at c2
   rw [if_neg (by rw [decide_eq_true c2];decide)] at k1
   refine ⟨_,rfl,p,dx,_,rfl,hp,hW.fs.no _ (by simp),_,rfl,p,ca,sa,l,_,_,_,j,_,rfl,hW,c,hM.lab,by rw [hM.len,c2],_,rfl,Nat.zero_le _,fun q1 hq1=>⟨Nat.zero_le _,fun q2 hq2=>?_⟩⟩
   have h12:q1≠q2:=(upd_none hq2).2.symm
   have tt:=Same.tn (Same.new hq1 (o:=.lst [])) hq2 (.lst [])
   refine ⟨_,q1,q2,[],[],rfl,by rw [upd_ne h12];exact upd_same,upd_same,Nat.zero_le _,Nat.zero_le _,fun H' q s2 hq e=>?_⟩
   rw [rep_says,zeroOf_eq hM c2] at e
   refine k1 H' q (tt.trans s2) (tt.free hq) ?_
   rw [e]
   refine congrArg (fun z=>some (HO.lst (ansV (says z)))) ?_
   cases Hush.colour (m.zeroOf j) <;> rfl
def spSettle (A:Ad):Sp:=fun vs H Q _=>∃(p an ar l t:Addr) (m:SMaker) (j:Nat) (b:Bytes),vs=[.ref p,.ref an,.ref ar]/\MakerAt A H p l t m/\H an=some (.lst [.int (j:Int)])/\RowsOff [l,t] H ar [bV b]/\b.length=16/\EndsM A H p l t Q (making m (.settle j b))
theorem sc_answer_settle:FnScope ["maker","numbers","rows","j","zero","label"] ["maker","numbers","rows"] (defScope s_answer_settle):=scB
theorem dec_b {a b:Bytes} (ha:a.length=16) (hb:b.length=16):decide (V.int ((ofBytes a:Nat):Int)=V.int ((ofBytes b:Nat):Int))=decide (a=b):=by
 by_cases h:a=b
 ·subst h
  rw [decide_eq_true rfl,decide_eq_true rfl]
 ·rw [decide_eq_false h,decide_eq_false]
  intro z
  injection z with z
  exact h (HM.ofBytes_inj (ha.trans hb.symm) (by omega))
theorem ok_answer_settle (T:Txt K mg A):FnOk P w K mg base CX0 3 A.f_answer_settle A.d_answer_settle ["maker","numbers","rows"] (spSettle A):=by
 refine T.answer_settle.fn.okA sc_answer_settle (fun _ _ _ _ H _ Q E hr h=>?_)
 obtain ⟨p,an,ar,l,t,m,j,b,rfl,hM,hn,hR,hb,k⟩:=h
 refine ⟨_,(pss_cons (ps_asg (pe_ix (ixL K) (pv 1) pe_int (fun _ _=>rfl)) (pgN (i:=3) sc_answer_settle.nd rfl (Or.inl rfl)))
  (pss_cons (ps_if (pt_not (truthK K (pe_methR (pv 0) (wkM T).cl (wkM T).m_has_output (ok_GateWalk_has_output T (wkM T)) (rm hr) T.GateWalk_has_output.bi .nil pass0 (pa_cons (pv 3) pa_nil)) (fun _=>rfl))) (pss_one (ps_ret (pe_call (ok_refusal T) (rm hr) rfl T.refusal.mg_ T.refusal.fn.kp T.refusal.bi .nil pass0 (pa_cons (pe_un un_neg pe_int) pa_nil)))) pss_nil)
  (pss_cons (ps_if (pt_not (truthK K (pe_meth0R (pv 0) (wkM T).cl (wkM T).m_all_done (ok_GateWalk_all_done T (wkM T)) (rm hr) T.GateWalk_all_done.bi .nil pass0) (fun _=>rfl))) (pss_one (ps_ret (pe_call (ok_refusal T) (rm hr) rfl T.refusal.mg_ T.refusal.fn.kp T.refusal.bi .nil pass0 (pa_cons (pe_un un_neg pe_int) pa_nil)))) pss_nil)
  (pss_cons (ps_asg (pe_methR (pv 0) (wkM T).cl (wkM T).m_output_label (ok_GateWalk_output_label T (wkM T)) (rm hr) T.GateWalk_output_label.bi .nil pass0 (pa_cons (pv 3) pa_nil)) (pgN (i:=4) sc_answer_settle.nd rfl (Or.inl rfl)))
  (pss_cons (ps_asg (pe_call (ok_number_of T) (rm hr) rfl T.number_of.mg_ T.number_of.fn.kp T.number_of.bi .nil pass0 (pa_cons (pe_ix (ixL K) (pv 2) pe_int (fun _ _=>rfl)) pa_nil)) (pgN (i:=5) sc_answer_settle.nd rfl (Or.inl rfl)))
  (pss_cons (ps_if (pt_cmpR op_eq (pv 5) (pv 4) (nomark _)) (pss_one (ps_ret (pe_call (ok_reply T) (rm hr) rfl T.reply.mg_ T.reply.fn.kp T.reply.bi .nil pass0 (pa_cons pe_int (pa_cons (pe_lst pa_nil) (pa_cons (pe_lst pa_nil) pa_nil)))))) pss_nil)
  (pss_cons (ps_if (pt_cmpR op_eq (pv 5) (pe_op op_xor (pv 4) (fldK K (pv 0))) (nomark _)) (pss_one (ps_ret (pe_call (ok_reply T) (rm hr) rfl T.reply.mg_ T.reply.fn.kp T.reply.bi .nil pass0 (pa_cons pe_int (pa_cons (pe_lst pa_nil) (pa_cons (pe_lst pa_nil) pa_nil)))))) pss_nil)
  (pss_one (ps_ret (pe_call (ok_refusal T) (rm hr) rfl T.refusal.mg_ T.refusal.fn.kp T.refusal.bi .nil pass0 (pa_cons (pe_un un_neg pe_int) pa_nil))))))))))),?_⟩
 obtain ⟨ca,sa,dx,hp,hW⟩:=hM.ev
 obtain ⟨xs,sl,h1,h2,h3,h4⟩:=hR.row (i:=0) rfl (z:=0) rfl
 refine ⟨_,rfl,an,_,_,_,rfl,rfl,SqL.of hn,rfl,fun σ' es=>?_⟩
 obtain rfl:σ'=[some (.ref p),some (.ref an),some (.ref ar),some (.int (j:Int)),none,none]:=es
 refine ⟨_,rfl,p,dx,_,rfl,hp,hW.fs.no _ (by simp),_,rfl,p,ca,sa,l,_,_,_,j,rfl,hW,_,rfl,?_⟩
 have k1:Ends1 H Q (if b.length≠16 then says (-1) else m.ofOut j (if b=m.zeroOf j then says 0 else if b=Hush.add (m.zeroOf j) (Hush.difference m.seed) then says 1 else says (-5))):=EndsM.stay hM k
 rw [if_neg (by rw [hb];decide)] at k1
 unfold Hushwork.Maker.ofOut at k1
 refine iteB (fun c=>?_) fun c=>?_
 ·simp only [Bool.not_eq_true',decide_eq_false_iff_not] at c
  rw [if_pos (by omega)] at k1
  exact ⟨_,rfl,_,rfl,fun H' q s1 hq e=>k1 H' q s1 hq (by rw [<-rep_says];exact e)⟩
 ·simp only [Bool.not_eq_false',decide_eq_true_eq] at c
  rw [if_neg (by omega),whole_iff] at k1
  refine ⟨_,rfl,p,dx,_,rfl,hp,hW.fs.no _ (by simp),p,ca,sa,l,_,_,_,_,m.done,rfl,hW,hM.lab,by rw [lV_length];exact hM.len,_,rfl,iteB (fun c2=>?_) fun c2=>?_⟩
  ·simp only [Bool.not_eq_true'] at c2
   rw [if_pos c2] at k1
   exact ⟨_,rfl,_,rfl,fun H' q s1 hq e=>k1 H' q s1 hq (by rw [<-rep_says];exact e)⟩
  ·simp only [Bool.not_eq_false',decide_eq_true_eq] at c2
   rw [if_neg (by rw [decide_eq_true c2];decide)] at k1
   have hz16:(m.zeroOf j).length=16:=by
    rw [<-zeroOf_eq hM c2]
    refine hM.a16.get ?_
    rw [hM.len,c2]
    exact wire_lt hM.wf c
   refine ⟨_,rfl,p,dx,_,rfl,hp,hW.fs.no _ (by simp),_,rfl,p,ca,sa,l,_,_,_,j,_,rfl,hW,c,hM.lab,by rw [hM.len,c2],fun σ' es=>?_⟩
   rw [zeroOf_eq hM c2] at es
   obtain rfl:σ'=[some (.ref p),some (.ref an),some (.ref ar),some (.int (j:Int)),some (.int (ofBytes (m.zeroOf j):Nat)),none]:=es
   refine ⟨_,rfl,ar,_,_,_,rfl,rfl,SqL.of h1,h2,sl,b,rfl,SqL.of h3,fun σ' es=>?_⟩
   obtain rfl:σ'=[some (.ref p),some (.ref an),some (.ref ar),some (.int (j:Int)),some (.int (ofBytes (m.zeroOf j):Nat)),some (.int (ofBytes b:Nat))]:=es
   refine ⟨_,rfl,_,rfl,rfl,_,rfl,?_⟩
   rw [dec_b hb hz16]
   refine iteB (fun c3=>?_) fun c3=>?_
   ·rw [dT] at c3
    rw [if_pos c3] at k1
    refine ⟨Nat.zero_le _,fun q1 hq1=>⟨Nat.zero_le _,fun q2 hq2=>?_⟩⟩
    have h12:q1≠q2:=(upd_none hq2).2.symm
    have tt:=Same.tn (Same.new hq1 (o:=.lst [])) hq2 (.lst [])
    refine ⟨_,q1,q2,[],[],rfl,by rw [upd_ne h12];exact upd_same,upd_same,Nat.zero_le _,Nat.zero_le _,fun H' q s2 hq e=>?_⟩
    rw [rep_says] at e
    exact k1 H' q (tt.trans s2) (tt.free hq) e
   ·rw [dF] at c3
    rw [if_neg c3] at k1
    refine ⟨_,rfl,_,rfl,_,rfl,p,_,dx,_,_,rfl,hp,T.c_Maker.cl,T.c_Maker.n,hW.fs.d,_,_,rfl,rfl,rfl,_,rfl,?_⟩
    have ex:=xb hz16 hM.d16
    show if decide (V.int ((ofBytes b:Nat):Int)=V.int (Builtin.bitXor _ _))=true then _ else _
    have e4:decide (V.int ((ofBytes b:Nat):Int)=V.int (Builtin.bitXor ((ofBytes (m.zeroOf j):Nat):Int) ((ofBytes (Hush.difference m.seed):Nat):Int)))=decide (b=Hush.add (m.zeroOf j) (Hush.difference m.seed)):=by
     simp only [ex]
     exact dec_b hb (la hz16 hM.d16)
    rw [e4]
    refine iteB (fun c4=>?_) fun c4=>?_
    ·rw [dT] at c4
     rw [if_pos c4] at k1
     refine ⟨Nat.zero_le _,fun q1 hq1=>⟨Nat.zero_le _,fun q2 hq2=>?_⟩⟩
     have h12:q1≠q2:=(upd_none hq2).2.symm
     have tt:=Same.tn (Same.new hq1 (o:=.lst [])) hq2 (.lst [])
     refine ⟨_,q1,q2,[],[],rfl,by rw [upd_ne h12];exact upd_same,upd_same,Nat.zero_le _,Nat.zero_le _,fun H' q s2 hq e=>?_⟩
     rw [rep_says] at e
     exact k1 H' q (tt.trans s2) (tt.free hq) e
    ·rw [dF] at c4
     rw [if_neg c4] at k1
     exact ⟨_,rfl,_,rfl,fun H' q s1 hq e=>k1 H' q s1 hq (by rw [<-rep_says];exact e)⟩
def MakIs (H:Hp) (n:Int) (an ar l t:Addr) (x:Hushwork.Call):Prop:=
 (n=9/\∃most:Nat,H an=some (.lst [.int (most:Int)])/\x=.next most)\/(n=10/\∃s:Bytes,RowsOff [l,t] H ar [bV s]/\x=.match_ s)\/
 (n=11/\∃i b:Nat,H an=some (.lst [.int (i:Int),.int (b:Int)])/\x=.tell i b)\/(n=12/\∃i:Nat,H an=some (.lst [.int (i:Int)])/\x=.told i)\/(n=13/\x=.done)\/
 (n=14/\∃j:Nat,H an=some (.lst [.int (j:Int)])/\x=.hint j)\/(n=15/\∃(j:Nat) (b:Bytes),H an=some (.lst [.int (j:Int)])/\RowsOff [l,t] H ar [bV b]/\b.length=16/\x=.settle j b)
def spMk (A:Ad):Sp:=fun vs H Q _=>∃(p an ar l t:Addr) (n:Int) (m:SMaker) (x:Hushwork.Call),vs=[.ref p,.int n,.ref an,.ref ar]/\MakerAt A H p l t m/\MakIs H n an ar l t x/\EndsM A H p l t Q (making m x)
theorem sc_maker_answer:FnScope ["maker","number","numbers","rows","answer"] ["maker","number","numbers","rows"] (defScope s_maker_answer):=scB
theorem ok_maker_answer (T:Txt K mg A):FnOk P w K mg base CX0 11 A.f_maker_answer A.d_maker_answer ["maker","number","numbers","rows"] (spMk A):=by
 refine T.maker_answer.fn.okA sc_maker_answer (fun _ _ _ _ H _ Q E hr h=>?_)
 obtain ⟨p,an,ar,l,t,n,m,x,rfl,hM,h,k⟩:=h
 rcases h with ⟨rfl,most,hn,rfl⟩|⟨rfl,s,hR,rfl⟩|⟨rfl,i,b,hn,rfl⟩|⟨rfl,i,hn,rfl⟩|⟨rfl,rfl⟩|⟨rfl,j,hn,rfl⟩|⟨rfl,j,b,hn,hR,hb,rfl⟩
 ·refine ⟨_,(pss_cons (ps_asg (kgetK K (pe_gref rfl T.t_MAKER_CALLS.mg_) (pv 1) (fun _ _=>rfl)) (pgN (i:=4) sc_maker_answer.nd rfl (Or.inl rfl)))
  (pss_one (ps_ret (pe_callV (i:=4) (ok_answer_next T) (rm hr) rfl (Or.inl rfl) T.answer_next.fn.kp T.answer_next.bi .nil pass0 (pa_cons (pv 0) (pa_cons (pv 2) (pa_cons (pv 3) pa_nil))))))),?_⟩
  refine ⟨_,rfl,_,_,_,_,rfl,T.t_MAKER_CALLS.dk,rfl,rfl,fun σ' es=>?_⟩
  subst es
  exact ⟨rfl,_,rfl,_,rfl,_,rfl,p,an,ar,l,t,m,most,rfl,hM,hn,k⟩
 ·refine ⟨_,(pss_cons (ps_asg (kgetK K (pe_gref rfl T.t_MAKER_CALLS.mg_) (pv 1) (fun _ _=>rfl)) (pgN (i:=4) sc_maker_answer.nd rfl (Or.inl rfl)))
  (pss_one (ps_ret (pe_callV (i:=4) (ok_answer_match T) (rm hr) rfl (Or.inl rfl) T.answer_match.fn.kp T.answer_match.bi .nil pass0 (pa_cons (pv 0) (pa_cons (pv 2) (pa_cons (pv 3) pa_nil))))))),?_⟩
  refine ⟨_,rfl,_,_,_,_,rfl,T.t_MAKER_CALLS.dk,rfl,rfl,fun σ' es=>?_⟩
  subst es
  exact ⟨rfl,_,rfl,_,rfl,_,rfl,p,an,ar,l,t,m,s,rfl,hM,hR,k⟩
 ·refine ⟨_,(pss_cons (ps_asg (kgetK K (pe_gref rfl T.t_MAKER_CALLS.mg_) (pv 1) (fun _ _=>rfl)) (pgN (i:=4) sc_maker_answer.nd rfl (Or.inl rfl)))
  (pss_one (ps_ret (pe_callV (i:=4) (ok_answer_tell T) (rm hr) rfl (Or.inl rfl) T.answer_tell.fn.kp T.answer_tell.bi .nil pass0 (pa_cons (pv 0) (pa_cons (pv 2) (pa_cons (pv 3) pa_nil))))))),?_⟩
  refine ⟨_,rfl,_,_,_,_,rfl,T.t_MAKER_CALLS.dk,rfl,rfl,fun σ' es=>?_⟩
  subst es
  exact ⟨rfl,_,rfl,_,rfl,_,rfl,p,an,ar,l,t,m,i,b,rfl,hM,hn,k⟩
 ·refine ⟨_,(pss_cons (ps_asg (kgetK K (pe_gref rfl T.t_MAKER_CALLS.mg_) (pv 1) (fun _ _=>rfl)) (pgN (i:=4) sc_maker_answer.nd rfl (Or.inl rfl)))
  (pss_one (ps_ret (pe_callV (i:=4) (ok_answer_told T) (rm hr) rfl (Or.inl rfl) T.answer_told.fn.kp T.answer_told.bi .nil pass0 (pa_cons (pv 0) (pa_cons (pv 2) (pa_cons (pv 3) pa_nil))))))),?_⟩
  refine ⟨_,rfl,_,_,_,_,rfl,T.t_MAKER_CALLS.dk,rfl,rfl,fun σ' es=>?_⟩
  subst es
  exact ⟨rfl,_,rfl,_,rfl,_,rfl,p,an,ar,l,t,m,i,rfl,hM,hn,k⟩
 ·refine ⟨_,(pss_cons (ps_asg (kgetK K (pe_gref rfl T.t_MAKER_CALLS.mg_) (pv 1) (fun _ _=>rfl)) (pgN (i:=4) sc_maker_answer.nd rfl (Or.inl rfl)))
  (pss_one (ps_ret (pe_callV (i:=4) (ok_answer_done T) (rm hr) rfl (Or.inl rfl) T.answer_done.fn.kp T.answer_done.bi .nil pass0 (pa_cons (pv 0) (pa_cons (pv 2) (pa_cons (pv 3) pa_nil))))))),?_⟩
  refine ⟨_,rfl,_,_,_,_,rfl,T.t_MAKER_CALLS.dk,rfl,rfl,fun σ' es=>?_⟩
  subst es
  exact ⟨rfl,_,rfl,_,rfl,_,rfl,p,l,t,_,_,m,rfl,hM,k⟩
 ·refine ⟨_,(pss_cons (ps_asg (kgetK K (pe_gref rfl T.t_MAKER_CALLS.mg_) (pv 1) (fun _ _=>rfl)) (pgN (i:=4) sc_maker_answer.nd rfl (Or.inl rfl)))
  (pss_one (ps_ret (pe_callV (i:=4) (ok_answer_hint T) (rm hr) rfl (Or.inl rfl) T.answer_hint.fn.kp T.answer_hint.bi .nil pass0 (pa_cons (pv 0) (pa_cons (pv 2) (pa_cons (pv 3) pa_nil))))))),?_⟩
  refine ⟨_,rfl,_,_,_,_,rfl,T.t_MAKER_CALLS.dk,rfl,rfl,fun σ' es=>?_⟩
  subst es
  exact ⟨rfl,_,rfl,_,rfl,_,rfl,p,an,ar,l,t,m,j,rfl,hM,hn,k⟩
 ·refine ⟨_,(pss_cons (ps_asg (kgetK K (pe_gref rfl T.t_MAKER_CALLS.mg_) (pv 1) (fun _ _=>rfl)) (pgN (i:=4) sc_maker_answer.nd rfl (Or.inl rfl)))
  (pss_one (ps_ret (pe_callV (i:=4) (ok_answer_settle T) (rm hr) rfl (Or.inl rfl) T.answer_settle.fn.kp T.answer_settle.bi .nil pass0 (pa_cons (pv 0) (pa_cons (pv 2) (pa_cons (pv 3) pa_nil))))))),?_⟩
  refine ⟨_,rfl,_,_,_,_,rfl,T.t_MAKER_CALLS.dk,rfl,rfl,fun σ' es=>?_⟩
  subst es
  exact ⟨rfl,_,rfl,_,rfl,_,rfl,p,an,ar,l,t,m,j,b,rfl,hM,hn,hR,hb,k⟩
abbrev STaker:=Hushwork.Taker
def tfs (c s l pc:Addr) (fed:Bool):List (Str×V):=gfs c s (.ref l) (.int (ofBytes Hush.none16:Nat))++([("piece",.ref pc),("is_fed",.bl fed)]:List (Str×V))
section
variable (c s l pc:Addr) (fed:Bool)
theorem tfs_w:Wfs (tfs c s l pc fed) c s l Hush.none16:=by
 obtain ⟨h1,h2,h3,h4⟩:=gfs_look c s (.ref l) (.int (ofBytes Hush.none16:Nat)) ([("piece",.ref pc),("is_fed",.bl fed)]:List (Str×V))
 refine ⟨h1,h2,h3,h4,fun m hm=>?_⟩
 unfold tfs
 simp only [List.mem_cons,List.not_mem_nil,or_false] at hm
 rcases hm with rfl|rfl|rfl|rfl|rfl|rfl <;> rw [gfs_no (by decide+kernel)] <;> rfl
theorem tfs_p:(tfs c s l pc fed).lookup ("piece":Str)=some (.ref pc):=by
 unfold tfs
 rw [gfs_no (by decide+kernel)]
 rfl
theorem tfs_f:(tfs c s l pc fed).lookup ("is_fed":Str)=some (.bl fed):=by
 unfold tfs
 rw [gfs_no (by decide+kernel)]
 simp only [List.lookup_cons,show (("is_fed":Str) == "piece")=false by decide+kernel]
 rfl
theorem tfs_no {m:Str} (h:(["circuit","schedule","labels","delta","piece","is_fed"]:List Str).all (fun x=>!(m == x))=true):(tfs c s l pc fed).lookup m=none:=by
 simp only [List.all_cons,List.all_nil,Bool.and_true,Bool.and_eq_true,Bool.not_eq_true'] at h
 obtain ⟨h1,h2,h3,h4,h5,h6⟩:=h
 unfold tfs
 rw [gfs_no (by simp only [List.all_cons,List.all_nil,Bool.and_true,Bool.and_eq_true,Bool.not_eq_true'];exact ⟨h1,h2,h3,h4⟩)]
 simp only [List.lookup_cons,h5,h6]
 rfl
theorem tfs_pput (pc':Addr):putF "piece" (.ref pc') (tfs c s l pc fed)=tfs c s l pc' fed:=by
 unfold tfs gfs
 simp only [List.cons_append,List.nil_append,putF,show ¬("circuit":Str)="piece" by decide+kernel,show ¬("schedule":Str)="piece" by decide+kernel,show ¬("labels":Str)="piece" by decide+kernel,show ¬("delta":Str)="piece" by decide+kernel,if_false,if_true]
theorem tfs_fput (f:Bool):putF "is_fed" (.bl f) (tfs c s l pc fed)=tfs c s l pc f:=by
 unfold tfs gfs
 simp only [List.cons_append,List.nil_append,putF,show ¬("circuit":Str)="is_fed" by decide+kernel,show ¬("schedule":Str)="is_fed" by decide+kernel,show ¬("labels":Str)="is_fed" by decide+kernel,show ¬("delta":Str)="is_fed" by decide+kernel,show ¬("piece":Str)="is_fed" by decide+kernel,if_false,if_true]
theorem tfs_mk:putF "is_fed" (.bl fed) (putF "piece" (.ref pc) (gfs c s (.ref l) (.int (ofBytes Hush.none16:Nat))))=tfs c s l pc fed:=by
 unfold tfs gfs
 simp only [putF,show ¬("circuit":Str)="piece" by decide+kernel,show ¬("schedule":Str)="piece" by decide+kernel,show ¬("labels":Str)="piece" by decide+kernel,show ¬("delta":Str)="piece" by decide+kernel,show ¬("circuit":Str)="is_fed" by decide+kernel,show ¬("schedule":Str)="is_fed" by decide+kernel,show ¬("labels":Str)="is_fed" by decide+kernel,show ¬("delta":Str)="is_fed" by decide+kernel,show ¬("piece":Str)="is_fed" by decide+kernel,if_false]
 rfl
end
structure TkAt (A:Ad) (H:Hp) (p l pc:Addr) (c:Hush.Circuit) (key:Bytes) (ls:List V) (pb:Bytes) (fed:Bool):Prop where
 k16:key.length=16
 ex:∃dx ca s,H p=some (.ins A.c_Taker dx (tfs ca s l pc fed))/\CircAt A.c_Circuit H ca c/\SchedAt H s key
 lab:H l=some (.lst ls)
 pce:H pc=some (.lst (bV pb))
 ne:pc≠l
section
variable {A:Ad} {H H':Hp} {p l pc:Addr} {c:Hush.Circuit} {key:Bytes} {ls:List V} {pb:Bytes} {fed:Bool}
theorem TkAt.keep {F:List Addr} (h:TkAt A H p l pc c key ls pb fed) (k:Keep F H H') (h1:p∉F) (h2:l∉F) (h3:pc∉F):TkAt A H' p l pc c key ls pb fed:=
 let ⟨dx,ca,s,e1,e2,e3⟩:=h.ex
 ⟨h.k16,⟨dx,ca,s,k.at_ e1 h1,e2.keep k,e3.keep k⟩,k.at_ h.lab h2,k.at_ h.pce h3,h.ne⟩
theorem TkAt.same (h:TkAt A H p l pc c key ls pb fed) (k:Same H H'):TkAt A H' p l pc c key ls pb fed:=h.keep (k.keep (F:=[])) (by simp) (by simp) (by simp)
theorem TkAt.wf (h:TkAt A H p l pc c key ls pb fed):WfC c:=let ⟨_,_,_,_,h2,_⟩:=h.ex;h2.wf
theorem TkAt.ww (h:TkAt A H p l pc c key ls pb fed):∃ca s dx,H p=some (.ins A.c_Taker dx (tfs ca s l pc fed))/\WAt A A.c_Taker H p (tfs ca s l pc fed) ca s l c Hush.none16/\SchedAt H s key:=by
 obtain ⟨dx,ca,s,h1,h2,h3⟩:=h.ex
 exact ⟨ca,s,dx,h1,⟨⟨dx,.inl h1⟩,tfs_w _ _ _ _ _,h2⟩,h3⟩
theorem TkAt.ne_pl (h:TkAt A H p l pc c key ls pb fed):p≠l/\p≠pc:=by
 obtain ⟨dx,ca,s,h1,_,_⟩:=h.ex
 exact ⟨ne_of h1 h.lab (by intro z;cases z),ne_of h1 h.pce (by intro z;cases z)⟩
theorem TkAt.relab {ls':List V} (h:TkAt A H p l pc c key ls pb fed) (k:Keep [l] H H') (e:H' l=some (.lst ls')):TkAt A H' p l pc c key ls' pb fed:=
 let ⟨dx,ca,s,e1,e2,e3⟩:=h.ex
 ⟨h.k16,⟨dx,ca,s,k.at_ e1 (by simp;exact h.ne_pl.1),e2.keep k,e3.keep k⟩,e,k.at_ h.pce (by simp;exact h.ne),h.ne⟩
end
def gvV:Option Bytes->V
 |none=>.non
 |some b=>.int (ofBytes b:Nat)
def spTInit (K:W.Frag) (A:Ad):Sp:=fun vs H Q _=>∃(p dx ca ak:Addr) (c:Hush.Circuit) (key:Bytes),vs=[.ref p,.ref ca,.ref ak]/\H p=some (.ins A.c_Taker dx [])/\CircAt A.c_Circuit H ca c/\SqL K H ak (bV key)/\ak≠p/\key.length=16/\
 ∀(H':Hp) (l pc:Addr),Keep [p] H H'->TkAt A H' p l pc c key (List.replicate c.ins .non) [] false->H l=none->H pc=none->Q .non H'
theorem sc_Taker_init:FnScope ["self","circuit","key"] ["self","circuit","key"] (defScope s_Taker_init):=scB
theorem rep_flat {α:Type} (a:α) (n:Nat):(List.replicate n [a]).flatten=List.replicate n a:=by
 induction n with
 |zero=>rfl
 |succ n ih=>
  rw [List.replicate_succ,List.replicate_succ,List.flatten_cons,ih]
  rfl
theorem ok_Taker_init (T:Txt K mg A):FnOk P w K mg base CX0 4 A.f_Taker_init A.d_Taker_init ["self","circuit","key"] (spTInit K A):=by
 refine T.Taker_init.fn.okA sc_Taker_init (fun _ _ _ _ H _ Q E hr h=>?_)
 obtain ⟨p,dx,ca,ak,c,key,rfl,hp,hC,hak,hne,hk,k⟩:=h
 have W:=wkT T
 refine ⟨_,(pss_cons (ps_expr (pe_cmeth rfl T.mg_GateWalk T.ga_GateWalk T.rd_GateWalk T.fi_GateWalk T.GateWalk_init.fn.kp (ok_GateWalk_init T W) (rm hr) T.GateWalk_init.bi .nil pass0 (pa_cons (pv 0) (pa_cons (pv 1) (pa_cons (pv 2) (pa_cons (pe_op op_rep (pe_lst (pa_cons pe_non pa_nil)) (fldK K (pv 1))) (pa_cons pe_int pa_nil)))))))
  (pss_cons (ps_fld (pv 0) (pe_lst pa_nil) rfl)
  (pss_one (ps_fld (pv 0) pe_bl rfl)))),?_⟩
 have cl:=T.c_Taker.cl
 have ni:∀{fs:List (Str×V)},¬Imm (HO.ins A.c_Taker dx fs):=fun {fs} z=>z
 have wf:=hC.wf
 obtain ⟨dc,lg,lo,gs,h1,h2,h3,h4,h5⟩:=hC.ex
 have hins:((c.na+c.nb:Nat):Int)=((c.ins:Nat):Int):=rfl
 have hb:c.ins<=32:=by have:=wf.na;have:=wf.nb;show c.na+c.nb<=32;omega
 refine ⟨_,rfl,_,rfl,_,rfl,by show 1<=sizeLine;decide,fun q hq=>?_⟩
 have s1:Same H (upd H q (.lst [.non])):=Same.new hq
 refine ⟨_,rfl,ca,_,dc,_,_,rfl,(Same.fz s1 h1).rd,T.c_Circuit.cl,T.c_Circuit.n,cfs_in,q,_,_,rfl,rfl,upd_same,by omega,by omega,?_,fun l hl=>?_⟩
 ·show 1*((c.na+c.nb:Nat):Int).toNat<=sizeLine
  rw [hins,sizeLine_eq]
  omega
 have e1:((c.na+c.nb:Nat):Int).toNat=c.ins:=by show _=c.na+c.nb;omega
 rw [e1,rep_flat]
 have s2:=Same.tn s1 hl (.lst (List.replicate c.ins V.non))
 have hp2:=s2 _ _ hp
 have hlp:l≠p:=fun z=>by rw [z,s1 _ _ hp] at hl;cases hl
 refine ⟨p,dx,ca,ak,_,_,key,rfl,hp2,s2.seq hak,hne,hk,fun H4 sa k4 hp4 hS4=>?_⟩
 have hl4:=k4.at_ (upd_same (H:=upd H q (.lst [.non])) (a:=l) (o:=.lst (List.replicate c.ins V.non))) (by simp;exact hlp)
 refine ⟨Nat.zero_le _,fun pc hpc=>?_⟩
 have hppc:p≠pc:=ne_of_none hp4 hpc
 have hlpc:l≠pc:=ne_of_none hl4 hpc
 have kpc:Keep [p] H4 (upd H4 pc (.lst [])):=Keep.new hpc
 have hp5:upd H4 pc (.lst []) p=some (.ins A.c_Taker dx (gfs ca sa (.ref l) (.int 0))):=by rw [upd_ne hppc];exact hp4
 refine ⟨_,rfl,p,_,dx,_,rfl,hp5,cl,T.c_Taker.n,(by show 4 < 1000;decide),?_⟩
 refine ⟨_,rfl,p,_,dx,_,rfl,upd_same,cl,T.c_Taker.n,(by show 5 < 1000;decide),?_⟩
 have z0:(V.int 0)=V.int ((ofBytes Hush.none16:Nat):Int):=by rw [HM.ofBytes_none16];rfl
 rw [upd_upd,z0,tfs_mk]
 have k6:Keep [p] H4 (upd (upd H4 pc (.lst [])) p (.ins A.c_Taker dx (tfs ca sa l pc false))):=kpc.trans (Keep.set hp5 ni (by simp))
 have kk:Keep [p] H H4:=(s2.keep).trans k4
 have hC4:=(hC.same s2).keep k4
 have fr:∀x,H4 x=none->x≠p->H x=none:=fun x hx hxp=>by
  cases e:H x with
  |none=>rfl
  |some o=>
   rw [kk.at_ e (by simp;exact hxp)] at hx
   cases hx
 refine k _ l pc (kk.trans k6) ⟨hk,⟨dx,ca,sa,upd_same,hC4.keep k6,hS4.keep k6⟩,k6.at_ hl4 (by simp;exact hlp),?_,hlpc.symm⟩ (s1.free hl) (fr pc hpc hppc.symm)
 rw [upd_ne hppc.symm,upd_same]
 rfl
def spKL (A:Ad):Sp:=fun vs H Q _=>∃(p l pc:Addr) (c:Hush.Circuit) (key:Bytes) (ls:List V) (pb:Bytes) (fed:Bool) (i:Nat) (v:V),vs=[.ref p,.int (i:Int),v]/\TkAt A H p l pc c key ls pb fed/\i < ls.length/\Q .non (upd H l (.lst (ls.set i v)))
theorem sc_Taker_keep_label:FnScope ["self","i","label"] ["self","i","label"] (defScope s_Taker_keep_label):=scB
theorem ok_Taker_keep_label (T:Txt K mg A):FnOk P w K mg base CX0 1 A.f_Taker_keep_label A.d_Taker_keep_label ["self","i","label"] (spKL A):=by
 refine T.Taker_keep_label.fn.okA sc_Taker_keep_label (fun _ _ _ _ H _ Q E hr h=>?_)
 obtain ⟨p,l,pc,c,key,ls,pb,fed,i,v,rfl,hT,hi,k⟩:=h
 refine ⟨_,(pss_one (ps_asg (pv 2) (pg_sub (fldK K (pv 0)) (pv 1) set_list))),?_⟩
 obtain ⟨ca,sa,dx,hp,hW,hS⟩:=hT.ww
 have hix:ixN ls.length (i:Int)=some i:=by
  unfold ixN
  rw [if_pos (by omega),if_pos (by omega)]
  rfl
 exact ⟨_,rfl,_,rfl,p,_,dx,_,_,rfl,.inl hp,T.c_Taker.cl,T.c_Taker.n,hW.fs.l,_,rfl,l,_,_,i,rfl,rfl,hT.lab,hix,k⟩
def spLL (A:Ad):Sp:=fun vs H Q _=>∃(p l pc:Addr) (c:Hush.Circuit) (key:Bytes) (ls:List V) (pb:Bytes) (fed:Bool),vs=[.ref p]/\TkAt A H p l pc c key ls pb fed/\ls.length<=1000/\∀H',Same H H'->Q (.bl (ls.any fun v=>decide (v=.non))) H'
theorem sc_Taker_lacks_label:FnScope ["self","label"] ["self"] (defScope s_Taker_lacks_label):=scB
theorem ok_Taker_lacks_label (T:Txt K mg A):FnOk P w K mg base CX0 1 A.f_Taker_lacks_label A.d_Taker_lacks_label ["self"] (spLL A):=by
 refine T.Taker_lacks_label.fn.okA sc_Taker_lacks_label (fun _ _ _ _ H _ Q E hr h=>?_)
 obtain ⟨p,l,pc,c,key,ls,pb,fed,rfl,hT,hlen,k⟩:=h
 refine ⟨_,(pss_one (ps_ret (pe_callB (anyS K) (by rfl) T.n_any PyProof.Rows.boot_any (pa_cons (pe_lc (own:=[("label",1)]) rfl sc_Taker_lacks_label.nd (pi_list (fldK K (pv 0))) (blkOk_by rfl) (fun _ _ _ _ _=>(pg_name (i:=1) sc_Taker_lacks_label.nd rfl (Or.inl rfl))) (fun _ _ _ _ _=>pts_nil) (fun _ _ _ _ _=>(pe_cmp (pc_isN (pv 1))))) pa_nil)))),?_⟩
 obtain ⟨ca,sa,dx,hp,hW,hS⟩:=hT.ww
 refine ⟨_,rfl,p,_,dx,_,_,rfl,.inl hp,T.c_Taker.cl,T.c_Taker.n,hW.fs.l,l,rfl,⟨_,SqL.of hT.lab⟩,fun D hD=>?_⟩
 have hlD:l≠D:=ne_of_none hT.lab hD
 refine lc_list (K:=K) (a:=l) (xs:=ls) (fun i H'=>H'=upd H D (.lst (((ls.map fun v=>decide (v=V.non)).map V.bl).take i))) rfl (fun i H' _ e=>by rw [e];exact SqL.of (by rw [upd_ne hlD];exact hT.lab)) ?_ ?_
 ·rintro i u H' hu rfl
  have hi:=(List.getElem?_eq_some_iff.mp hu).1
  refine ⟨rfl,_,rfl,_,upd_same,sz (m:=1000) (by rw [List.length_take];omega),?_⟩
  have e:((ls.map fun v=>decide (v=V.non)).map V.bl)[i]?=some (.bl (decide (u=V.non))):=by rw [List.getElem?_map,List.getElem?_map,hu];rfl
  rw [upd_upd,take_snoc e]
 ·rintro H' rfl
  rw [List.take_of_length_le (by rw [List.length_map,List.length_map];exact Nat.le_refl _)]
  refine ⟨D,_,rfl,SqL.of upd_same,?_⟩
  have e:(ls.map fun v=>decide (v=V.non)).any id=ls.any fun v=>decide (v=.non):=by rw [List.any_map];rfl
  rw [e]
  exact k _ (Same.new hD)
def spIF (A:Ad):Sp:=fun vs H Q _=>∃(p l pc:Addr) (c:Hush.Circuit) (key:Bytes) (ls:List V) (pb:Bytes) (fed:Bool) (n:Nat),vs=[.ref p]/\TkAt A H p l pc c key ls pb fed/\ls.length=c.ins+n/\Q (.bl (fed&&decide (n=c.gates.length))) H
theorem sc_Taker_is_finished:FnScope ["self"] ["self"] (defScope s_Taker_is_finished):=scB
theorem ok_Taker_is_finished (T:Txt K mg A):FnOk P w K mg base CX0 3 A.f_Taker_is_finished A.d_Taker_is_finished ["self"] (spIF A):=by
 refine T.Taker_is_finished.fn.okA sc_Taker_is_finished (fun _ _ _ _ H _ Q E hr h=>?_)
 obtain ⟨p,l,pc,c,key,ls,pb,fed,n,rfl,hT,hn,k⟩:=h
 refine ⟨_,(pss_one (ps_ret (pe_and (fldK K (pv 0)) (pe_one (pe_meth0R (pv 0) (wkT T).cl (wkT T).m_all_done (ok_GateWalk_all_done T (wkT T)) (rm hr) T.GateWalk_all_done.bi .nil pass0))))),?_⟩
 obtain ⟨ca,sa,dx,hp,hW,hS⟩:=hT.ww
 refine ⟨_,rfl,p,_,dx,_,_,rfl,.inl hp,T.c_Taker.cl,T.c_Taker.n,tfs_f _ _ _ _ _,_,rfl,?_⟩
 cases fed with
 |false=>exact k
 |true=>exact ⟨_,rfl,p,dx,_,rfl,.inl hp,hW.fs.no _ (by simp),p,ca,sa,l,_,_,_,_,n,rfl,hW,hT.lab,hn,k⟩
theorem nx_idem {c:Hush.Circuit} {n:Nat} (hn:n<=c.gates.length):nx c (nx c n)=nx c n:=by
 rcases nx_odd hn with e|⟨g,e,ho⟩
 ·rw [e]
  have:=nx_le (c:=c) (n:=c.gates.length) (Nat.le_refl _)
  omega
 ·exact nx_fix e ho
theorem works_even {c:Hush.Circuit} (wf:WfC c) {key s:Bytes}:∀(k n:Nat) (bs:List Bytes),k=nx c n - n->n<=c.gates.length->All16 bs->bs.length=c.ins+n->
  Hush.works key (c.numbered.drop n) bs s=Hush.works key (c.numbered.drop (nx c n)) (evRun Hush.none16 (c.gates.drop n) bs) s/\All16 (evRun Hush.none16 (c.gates.drop n) bs)/\(evRun Hush.none16 (c.gates.drop n) bs).length=c.ins+nx c n
 |0,n,bs,hk,hn,h16,hl=>by
  have e0:nx c n=n:=by have:=(nx_le hn).1;omega
  have e1:evRun Hush.none16 (c.gates.drop n) bs=bs:=by
   rcases nx_odd hn with e|⟨g,e,ho⟩
   ·rw [<-e0,e,List.drop_length]
    rfl
   ·rw [e0] at e
    obtain ⟨hlt,e⟩:=List.getElem?_eq_some_iff.mp e
    rw [List.drop_eq_getElem_cons hlt,e]
    unfold evRun
    rw [if_pos ho]
  rw [e0,e1]
  exact ⟨rfl,h16,hl⟩
 |k+1,n,bs,hk,hn,h16,hl=>by
  have hle:=nx_le hn
  have hlt:n < c.gates.length:=by omega
  have hg:=List.getElem?_eq_getElem hlt
  have ho:=nx_even (Nat.le_refl n) (show n < nx c n by omega) hg
  have h1:c.gates.drop n=c.gates[n]::c.gates.drop (n+1):=List.drop_eq_getElem_cons hlt
  have e1:nx c (n+1)=nx c n:=by
   unfold nx
   rw [h1,List.takeWhile_cons,ho]
   show n+1+_=n+(_+1)
   omega
  obtain ⟨w1,w2,w3⟩:=wf.gate n _ hg
  have ha:=h16.get (i:=c.gates[n].a) (by omega)
  have hb:=h16.get (i:=c.gates[n].b) (by omega)
  have e2:evRun Hush.none16 (c.gates.drop n) bs=evRun Hush.none16 (c.gates.drop (n+1)) (bs++[evenZ (bs.getD c.gates[n].a []) (bs.getD c.gates[n].b []) Hush.none16 c.gates[n].f]):=by
   rw [h1]
   show (if Hush.odd c.gates[n].f=true then _ else _)=_
   rw [if_neg (by rw [ho];decide)]
  have ih:=works_even wf (key:=key) (s:=s) k (n+1) (bs++[evenZ (bs.getD c.gates[n].a []) (bs.getD c.gates[n].b []) Hush.none16 c.gates[n].f]) (by omega) hlt
   (h16.snoc (length_evenZ ha hb HM.length_none16 _)) (by rw [List.length_append,hl];rfl)
  rw [e1] at ih
  rw [e2,<-ih.1]
  refine ⟨?_,ih.2⟩
  rw [numbered_drop hg]
  show (if Hush.odd c.gates[n].f=true then _ else _)=_
  rw [if_neg (by rw [ho];decide)]
  show Hush.works key (c.numbered.drop (n+1)) (bs++[Hush.one (bs.getD c.gates[n].a []) (bs.getD c.gates[n].b []) [] key c.gates[n].f n]) s=_
  rw [one_even ho w1 ha hb]
def spOG (A:Ad):Sp:=fun vs H Q _=>∃(p l pc:Addr) (c:Hush.Circuit) (key:Bytes) (bs:List Bytes) (pb:Bytes) (fed:Bool) (n:Nat) (g:Hush.Gate),vs=[.ref p]/\TkAt A H p l pc c key (lV bs) pb fed/\All16 bs/\bs.length=c.ins+n/\c.gates[n]?=some g/\pb.length=32/\
 ∀(H':Hp) (pc':Addr),Keep [p,l] H H'->H pc'=none->TkAt A H' p l pc' c key (lV (bs++[Hush.one (bs.getD g.a []) (bs.getD g.b []) pb key g.f n])) [] fed->Q .non H'
theorem sc_Taker_do_odd_gate:FnScope ["self","g","gate","a","b"] ["self"] (defScope s_Taker_do_odd_gate):=scB
theorem TkAt.repce {H H':Hp} {p l pc pc' dx ca s:Addr} {c:Hush.Circuit} {key:Bytes} {ls:List V} {pb pb':Bytes} {fed fed':Bool} (h:TkAt A H p l pc c key ls pb fed) (h1:H p=some (.ins A.c_Taker dx (tfs ca s l pc fed))) (hc:CircAt A.c_Circuit H ca c) (hs:SchedAt H s key)
  (e:H'=upd H p (.ins A.c_Taker dx (tfs ca s l pc' fed'))) (hpc:H pc'=some (.lst (bV pb'))) (hne:pc'≠l):TkAt A H' p l pc' c key ls pb' fed'/\Keep [p] H H':=by
 subst e
 have k:Keep [p] H (upd H p (.ins A.c_Taker dx (tfs ca s l pc' fed'))):=Keep.set h1 (fun z=>z) (by simp)
 have hpp:pc'≠p:=fun z=>by rw [z,h1] at hpc;cases hpc
 exact ⟨⟨h.k16,⟨dx,ca,s,upd_same,hc.keep k,hs.keep k⟩,k.at_ h.lab (by simp;exact h.ne_pl.1.symm),k.at_ hpc (by simp;exact hpp),hne⟩,k⟩
theorem ok_Taker_do_odd_gate (T:Txt K mg A):FnOk P w K mg base CX0 8 A.f_Taker_do_odd_gate A.d_Taker_do_odd_gate ["self"] (spOG A):=by
 refine T.Taker_do_odd_gate.fn.okA sc_Taker_do_odd_gate (fun _ _ _ _ H _ Q E hr h=>?_)
 obtain ⟨p,l,pc,c,key,bs,pb,fed,n,g,rfl,hT,a16,hlen,hg,hpb,k⟩:=h
 refine ⟨_,(pss_cons (ps_asg (pe_meth0R (pv 0) (wkT T).cl (wkT T).m_gates_done (ok_GateWalk_gates_done T (wkT T)) (rm hr) T.GateWalk_gates_done.bi .nil pass0) (pgN (i:=1) sc_Taker_do_odd_gate.nd rfl (Or.inl rfl)))
  (pss_cons (ps_asg (pe_ix (ixL K) (fldK K (fldK K (pv 0))) (pv 1) (fun _ _=>rfl)) (pgN (i:=2) sc_Taker_do_odd_gate.nd rfl (Or.inl rfl)))
  (pss_cons (ps_asg (pe_ix (ixL K) (fldK K (pv 0)) (pe_ix (ixT K) (pv 2) pe_int (fun _ _=>rfl)) (fun _ _=>rfl)) (pgN (i:=3) sc_Taker_do_odd_gate.nd rfl (Or.inl rfl)))
  (pss_cons (ps_asg (pe_ix (ixL K) (fldK K (pv 0)) (pe_ix (ixT K) (pv 2) pe_int (fun _ _=>rfl)) (fun _ _=>rfl)) (pgN (i:=4) sc_Taker_do_odd_gate.nd rfl (Or.inl rfl)))
  (pss_cons (ps_expr (pe_bm PySem.F.plainAttrs_list PySem.F.slot_list_append PySem.F.type_list_append mt_append (fldK K (pv 0)) (pa_cons (pe_call (ok_taken_label T) (rm hr) rfl T.taken_label.mg_ T.taken_label.fn.kp T.taken_label.bi .nil pass0 (pa_cons (fldK K (pv 0)) (pa_cons (pe_ix (ixT K) (pv 2) pe_int (fun _ _=>rfl)) (pa_cons (pv 1) (pa_cons (pv 3) (pa_cons (pv 4) (pa_cons (fldK K (pv 0)) pa_nil))))))) pa_nil)))
  (pss_one (ps_fld (pv 0) (pe_lst pa_nil) rfl))))))),?_⟩
 have W:=wkT T
 obtain ⟨ca,sa,dx,hp,hW,hS⟩:=hT.ww
 have hp':Rd H p (.ins A.c_Taker dx (tfs ca sa l pc fed)):=.inl hp
 obtain ⟨dc,lg,lo,gs,h1,h2,h3,h4,h5⟩:=hW.circ.ex
 obtain ⟨w1,w2,w3⟩:=hT.wf.gate _ g hg
 have hn:=(List.getElem?_eq_some_iff.mp hg).1
 obtain ⟨q,hq⟩:∃q,gs[n]?=some q:=⟨_,List.getElem?_eq_getElem (by omega)⟩
 have ht:=h4 _ q g hq hg
 refine ⟨_,rfl,p,dx,_,rfl,hp',hW.fs.no _ (by simp),p,ca,sa,l,_,_,_,_,n,rfl,hW,hT.lab,by rw [lV_length];exact hlen,fun σ' es=>?_⟩
 obtain rfl:σ'=[some (.ref p),some (.int (n:Int)),none,none,none]:=es
 refine ⟨_,rfl,p,_,dx,_,_,rfl,hp',W.cl,W.na _ (by simp),hW.fs.c,ca,_,dc,_,_,rfl,h1.rd,T.c_Circuit.cl,T.c_Circuit.n,cfs_ga,_,rfl,lg,_,_,_,rfl,rfl,h2.sqL,atI_nat (j:=n) (v:=V.ref q) (by rw [List.getElem?_map,hq];rfl),fun σ' es=>?_⟩
 obtain rfl:σ'=[some (.ref p),some (.int (n:Int)),some (.ref q),none,none]:=es
 refine ⟨_,rfl,p,_,dx,_,_,rfl,hp',W.cl,W.na _ (by simp),hW.fs.l,_,rfl,q,_,_,_,rfl,rfl,SqT.of ht,rfl,l,_,_,_,rfl,rfl,SqL.of hT.lab,lV_at (by omega),fun σ' es=>?_⟩
 obtain rfl:σ'=[some (.ref p),some (.int (n:Int)),some (.ref q),some (.int (ofBytes (bs.getD g.a []):Nat)),none]:=es
 refine ⟨_,rfl,p,_,dx,_,_,rfl,hp',W.cl,W.na _ (by simp),hW.fs.l,_,rfl,q,_,_,_,rfl,rfl,SqT.of ht,rfl,l,_,_,_,rfl,rfl,SqL.of hT.lab,lV_at (by omega),fun σ' es=>?_⟩
 obtain rfl:σ'=[some (.ref p),some (.int (n:Int)),some (.ref q),some (.int (ofBytes (bs.getD g.a []):Nat)),some (.int (ofBytes (bs.getD g.b []):Nat))]:=es
 refine ⟨_,rfl,p,_,dx,_,_,rfl,hp',W.cl,W.na _ (by simp),hW.fs.l,.inl ⟨rfl,_,SqL.of hT.lab⟩,_,rfl,p,_,dx,_,_,rfl,hp',W.cl,W.na _ (by simp),hW.fs.s,_,rfl,q,_,_,_,rfl,rfl,SqT.of ht,rfl,_,rfl,_,rfl,_,rfl,_,rfl,p,_,dx,_,_,rfl,hp',W.cl,T.c_Taker.n,tfs_p _ _ _ _ _,?_⟩
 refine ⟨sa,pc,key,_,_,pb,g.f,n,rfl,hS,w1,a16.get (by omega),a16.get (by omega),SqL.of hT.pce,hpb,fun H1 s1=>?_⟩
 have hT1:=hT.same s1
 have hsz:(lV bs).length < sizeLine:=by
  have:=hT.wf.ng
  have:=hT.wf.na
  have:=hT.wf.nb
  have hin:c.ins=c.na+c.nb:=rfl
  exact sz (m:=100) (by rw [lV_length];omega)
 refine ⟨l,_,_,rfl,rfl,hT1.lab,hsz,Nat.zero_le _,fun pc' hpc'=>?_⟩
 obtain ⟨hpc1,hpcl⟩:=upd_none hpc'
 have eL:lV bs++[V.int (ofBytes (Hush.one (bs.getD g.a []) (bs.getD g.b []) pb key g.f n):Nat)]=lV (bs++[Hush.one (bs.getD g.a []) (bs.getD g.b []) pb key g.f n]):=by
  unfold lV
  rw [List.map_append]
  rfl
 rw [eL] at hpc' ⊢
 have k2:Keep [l] H1 (upd H1 l (.lst (lV (bs++[Hush.one (bs.getD g.a []) (bs.getD g.b []) pb key g.f n])))):=Keep.set hT1.lab (fun z=>z) (by simp)
 have hT2:=hT1.relab k2 upd_same
 have s3:=Same.new hpc' (o:=.lst (bV []))
 have hT3:=hT2.same s3
 have hp1:=s1 _ _ hp
 have hp2:=k2.at_ hp1 (by simp;exact hT.ne_pl.1)
 have hp3:=s3 _ _ hp2
 refine ⟨_,rfl,p,_,dx,_,rfl,hp3,T.c_Taker.cl,T.c_Taker.n,(by show 6 < 1000;decide),?_⟩
 rw [tfs_pput]
 obtain ⟨hT4,k4⟩:=hT3.repce (pc':=pc') (pb':=[]) (fed':=fed) hp3 (((hW.circ.same s1).keep k2).same s3) (((hS.same s1).keep k2).same s3) rfl upd_same hpcl
 exact k _ pc' (((s1.keep.trans (k2.mono (by simp))).trans s3.keep).trans (k4.mono (by simp))) (s1.free hpc1) hT4
def spTS (A:Ad):Sp:=fun vs H Q _=>∃(p l pc sl:Addr) (c:Hush.Circuit) (key:Bytes) (bs:List Bytes) (pb s:Bytes) (fed:Bool) (n:Nat),vs=[.ref p,.ref sl]/\TkAt A H p l pc c key (lV bs) pb fed/\H sl=some (.lst (bV s))/\sl≠l/\s.length<=2048/\All16 bs/\bs.length=c.ins+n/\n<=c.gates.length/\pb.length < 32/\(nx c n=n\/pb=[])/\(n=c.gates.length->pb=[])/\
 ∀(H':Hp) (pc':Addr) (n' k':Nat) (bs':List Bytes) (pb':Bytes),Keep [p,l] H H'->(pc'=pc\/H pc'=none)->TkAt A H' p l pc' c key (lV bs') pb' true->All16 bs'->bs'.length=c.ins+n'->n'<=c.gates.length->pb'.length < 32->nx c n'=n'->k'<=s.length->
  (n'=c.gates.length->pb'=[])->(n'≠c.gates.length->k'=s.length)->
  Hush.works key (c.numbered.drop n) bs (pb++s)=(bs',pb'++s.drop k',decide (n'=c.gates.length))->Q (.int (k':Int)) H'
theorem sc_Taker_take_stream:FnScope ["self","stream","taken","wanted","part"] ["self","stream"] (defScope s_Taker_take_stream):=scB
theorem ok_Taker_take_stream (T:Txt K mg A):FnOk P w K mg base CX0 9 A.f_Taker_take_stream A.d_Taker_take_stream ["self","stream"] (spTS A):=by
 refine T.Taker_take_stream.fn.okA sc_Taker_take_stream (fun _ _ _ _ H _ Q E hr h=>?_)
 obtain ⟨p,l,pc,sl,c,key,bs,pb,s,fed,n,rfl,hT,hsl,hne,hmax,a16,hlen,hn,hpb,hnp,hnd,k⟩:=h
 refine ⟨_,(pss_cons (ps_fld (pv 0) pe_bl rfl)
  (pss_cons (ps_asg pe_int (pgN (i:=2) sc_Taker_take_stream.nd rfl (Or.inl rfl)))
  (pss_cons (ps_expr (pe_meth0R (pv 0) (wkT T).cl (wkT T).m_do_even_gates (ok_GateWalk_do_even_gates T (wkT T)) (rm hr) T.GateWalk_do_even_gates.bi .nil pass0))
  (pss_cons (ps_while PassesOwn.never (pt_not (truthK K (pe_meth0R (pv 0) (wkT T).cl (wkT T).m_all_done (ok_GateWalk_all_done T (wkT T)) (rm hr) T.GateWalk_all_done.bi .nil pass0) (fun _=>rfl))) (pss_cons (ps_asg (pe_op op_sub (pe_gint rfl T.i_TABLE_BYTES) (pe_callB (lenS K) (by rfl) T.n_len PySem.boot_len (pa_cons (fldK K (pv 0)) pa_nil))) (pgN (i:=3) sc_Taker_take_stream.nd rfl (Or.inl rfl)))
  (pss_cons (ps_asg (pe_slice (slL K) (pv 1) (po_some (pv 2)) (po_some (pe_op op_add (pv 2) (pv 3)))) (pgN (i:=4) sc_Taker_take_stream.nd rfl (Or.inl rfl)))
  (pss_cons (ps_fld (pv 0) (pe_op op_cat (fldK K (pv 0)) (pv 4)) rfl)
  (pss_cons (ps_asg (pe_op op_add (pv 2) (pe_callB (lenS K) (by rfl) T.n_len PySem.boot_len (pa_cons (pv 4) pa_nil))) (pgN (i:=2) sc_Taker_take_stream.nd rfl (Or.inl rfl)))
  (pss_cons (ps_if (pt_cmpR op_lt (pe_callB (lenS K) (by rfl) T.n_len PySem.boot_len (pa_cons (pv 4) pa_nil)) (pv 3) (nomark _)) (pss_one (ps_ret (pv 2))) pss_nil)
  (pss_cons (ps_expr (pe_meth0R (pv 0) (wkT T).cl (mt_Taker_do_odd_gate T) (ok_Taker_do_odd_gate T) (rm hr) T.Taker_do_odd_gate.bi .nil pass0))
  (pss_one (ps_expr (pe_meth0R (pv 0) (wkT T).cl (wkT T).m_do_even_gates (ok_GateWalk_do_even_gates T (wkT T)) (rm hr) T.GateWalk_do_even_gates.bi .nil pass0))))))))))
  (pss_one (ps_ret (pv 2))))))),?_⟩
 have W:=wkT T
 have wf:=hT.wf
 obtain ⟨ca,sa,dx,hp,hW,hS⟩:=hT.ww
 refine ⟨_,rfl,p,_,dx,_,rfl,hp,T.c_Taker.cl,T.c_Taker.n,(by show 6 < 1000;decide),?_⟩
 rw [tfs_fput]
 obtain ⟨hT1,k1⟩:=hT.repce (pc':=pc) (pb':=pb) (fed':=true) hp hW.circ hS rfl hT.pce hT.ne
 generalize upd H p (.ins A.c_Taker dx (tfs ca sa l pc true))=H1 at hT1 k1
 refine fun σ' es=>?_
 obtain rfl:σ'=[some (.ref p),some (.ref sl),some (.int ((0:Nat):Int)),none,none]:=es
 obtain ⟨ca1,sa1,dx1,hp1,hW1,hS1⟩:=hT1.ww
 refine ⟨_,rfl,p,dx1,_,rfl,.inl hp1,hW1.fs.no _ (by simp),p,ca1,sa1,l,_,_,_,_,n,rfl,hW1,HM.length_none16,hT1.lab,hlen,hn,a16,fun H2 k2 hl2=>?_⟩
 have hT2:=hT1.relab k2 hl2
 have we:=works_even wf (key:=key) (s:=pb++s) _ n bs rfl hn a16 hlen
 have hle:=nx_le hn
 have hslp:sl≠p:=fun z=>by rw [z,hp] at hsl;cases hsl
 let I:Nat->L2.St->Hp->Prop:=fun μ σ Hx=>∃(n' k':Nat) (bs':List Bytes) (pb':Bytes) (pc':Addr) (v w':Option V),μ=c.gates.length - n'/\σ=[some (.ref p),some (.ref sl),some (.int (k':Int)),v,w']/\Keep [p,l] H Hx/\(pc'=pc\/H pc'=none)/\TkAt A Hx p l pc' c key (lV bs') pb' true/\All16 bs'/\bs'.length=c.ins+n'/\n'<=c.gates.length/\pb'.length < 32/\nx c n'=n'/\k'<=s.length/\(n'=c.gates.length->pb'=[])/\
  Hush.works key (c.numbered.drop n) bs (pb++s)=Hush.works key (c.numbered.drop n') bs' (pb'++s.drop k')
 refine ⟨I,⟨_,nx c n,0,_,pb,pc,none,none,rfl,rfl,(k1.mono (by simp)).trans (k2.mono (by simp)),.inl rfl,hT2,we.2.1,we.2.2,hle.2,hpb,nx_idem hn,Nat.zero_le _,?_,we.1⟩,?_⟩
 ·intro e
  rcases hnp with h|h
  ·exact hnd (by omega)
  ·exact h
 rintro μ σ Hx ⟨n',k',bs',pb',pc',v,w',rfl,rfl,kx,hpcx,hTx,a16x,hlenx,hnx,hpbx,hfix,hkx,hndx,hspec⟩
 obtain ⟨cax,sax,dxx,hpx,hWx,hSx⟩:=hTx.ww
 have hslx:=kx.at_ hsl (by simp;exact ⟨hslp,hne⟩)
 refine ⟨_,rfl,p,dxx,_,rfl,.inl hpx,hWx.fs.no _ (by simp),p,cax,sax,l,_,_,_,_,n',rfl,hWx,hTx.lab,by rw [lV_length];exact hlenx,_,rfl,?_⟩
 show if (!decide (n'=c.gates.length))=true then _ else _
 refine iteB (fun c2=>?_) fun c2=>?_
 ·simp only [Bool.not_eq_true',decide_eq_false_iff_not] at c2
  have hnlt:n' < c.gates.length:=by omega
  obtain ⟨g,hg,ho⟩:∃g,c.gates[n']?=some g/\Hush.odd g.f=true:=by
   rcases nx_odd hnx with e|⟨g,e,ho⟩
   ·rw [hfix] at e;omega
   ·rw [hfix] at e;exact ⟨g,e,ho⟩
  refine ⟨fun σ' H'=>∃m',m' < c.gates.length - n'/\I m' σ' H',fun σ' H' h=>h,?_⟩
  refine ⟨_,rfl,p,_,dxx,_,_,rfl,.inl hpx,W.cl,T.c_Taker.n,tfs_p _ _ _ _ _,pc',_,rfl,.inl (SqL.of hTx.pce),_,_,rfl,rfl,fun σ' es=>?_⟩
  have ew:(32:Int) - (((bV pb').length:Nat):Int)=((32 - pb'.length:Nat):Int):=by rw [bV_length];omega
  dsimp only at es
  rw [ew] at es
  obtain rfl:σ'=[some (.ref p),some (.ref sl),some (.int (k':Int)),some (.int ((32 - pb'.length:Nat):Int)),w']:=es
  refine ⟨_,rfl,_,rfl,_,rfl,_,rfl,_,rfl,_,_,rfl,rfl,_,rfl,sl,_,rfl,SqL.of hslx,fun cu hcu=>?_⟩
  have e33:(k':Int)+((32 - pb'.length:Nat):Int)=((k'+(32 - pb'.length):Nat):Int):=by omega
  rw [e33,bV_cut,show k'+(32 - pb'.length) - k'=32 - pb'.length by omega]
  refine fun σ' es=>?_
  obtain rfl:σ'=[some (.ref p),some (.ref sl),some (.int (k':Int)),some (.int ((32 - pb'.length:Nat):Int)),some (.ref cu)]:=es
  obtain ⟨part,hpart⟩:∃part,part=(s.drop k').take (32 - pb'.length):=⟨_,rfl⟩
  rw [<-hpart]
  have hpl:part.length=min (32 - pb'.length) (s.length - k'):=by rw [hpart,List.length_take,List.length_drop]
  have s3:Same Hx (upd Hx cu (.lst (bV part))):=Same.new hcu
  have hT3:=hTx.same s3
  have hp3:=s3 _ _ hpx
  have hcu3:upd Hx cu (.lst (bV part)) cu=some (.lst (bV part)):=upd_same
  have hC3:=hWx.circ.same s3
  have hS3:=hSx.same s3
  generalize upd Hx cu (.lst (bV part))=H3 at s3 hT3 hp3 hcu3 hC3 hS3 ⊢
  refine ⟨_,rfl,p,_,dxx,_,_,rfl,.inl hp3,W.cl,T.c_Taker.n,tfs_p _ _ _ _ _,_,rfl,pc',cu,_,_,rfl,rfl,hT3.pce,hcu3,?_,fun p2 hp2=>?_⟩
  ·rw [bV_length,bV_length,sizeLine_eq]
   omega
  rw [<-bV_append]
  have s4:Same H3 (upd H3 p2 (.lst (bV (pb'++part)))):=Same.new hp2
  have hT4:=hT3.same s4
  have hp4:=s4 _ _ hp3
  have hcu4:=s4 _ _ hcu3
  have hp24:upd H3 p2 (.lst (bV (pb'++part))) p2=some (.lst (bV (pb'++part))):=upd_same
  have hC4:=hC3.same s4
  have hS4:=hS3.same s4
  have hp2l:p2≠l:=fun z=>by rw [z,hT3.lab] at hp2;cases hp2
  generalize upd H3 p2 (.lst (bV (pb'++part)))=H4 at s4 hT4 hp4 hcu4 hp24 hC4 hS4 ⊢
  refine ⟨_,rfl,p,_,dxx,_,rfl,hp4,T.c_Taker.cl,T.c_Taker.n,(by show 6 < 1000;decide),?_⟩
  rw [tfs_pput]
  obtain ⟨hT5,k5⟩:=hT4.repce (pc':=p2) (pb':=pb'++part) (fed':=true) hp4 hC4 hS4 rfl hp24 hp2l
  generalize upd H4 p (.ins A.c_Taker dxx (tfs cax sax l p2 true))=H5 at hT5 k5 ⊢
  have hcup:cu≠p:=fun z=>by rw [z,hpx] at hcu;cases hcu
  have hcu5:=k5.at_ hcu4 (by simp;exact hcup)
  have k05:Keep [p,l] H H5:=((kx.trans s3.keep).trans s4.keep).trans (k5.mono (by simp))
  have hp20:H p2=none:=by
   have h9:=s3.free hp2
   cases e9:H p2 with
   |none=>rfl
   |some o=>
    by_cases hi:p2=p
    ·rw [hi,hpx] at h9
     cases h9
    ·have:=kx.at_ e9 (by simp;exact ⟨hi,hp2l⟩)
     rw [h9] at this
     cases this
  refine ⟨_,rfl,_,rfl,cu,_,rfl,.inl (SqL.of hcu5),_,_,rfl,rfl,fun σ' es=>?_⟩
  have ek:(k':Int)+(((bV part).length:Nat):Int)=((k'+part.length:Nat):Int):=by rw [bV_length];omega
  dsimp only at es
  rw [ek] at es
  obtain rfl:σ'=[some (.ref p),some (.ref sl),some (.int ((k'+part.length:Nat):Int)),some (.int ((32 - pb'.length:Nat):Int)),some (.ref cu)]:=es
  refine ⟨_,rfl,cu,_,rfl,.inl (SqL.of hcu5),_,rfl,_,_,rfl,rfl,_,rfl,?_⟩
  rw [bV_length]
  refine iteB (fun c3=>?_) fun c3=>?_
  ·rw [dT] at c3
   have hshort:s.length - k' < 32 - pb'.length:=by omega
   have hk2:k'+part.length=s.length:=by omega
   have hpe:part=s.drop k':=by rw [hpart,List.take_of_length_le (by rw [List.length_drop];omega)]
   refine ⟨_,rfl,k H5 p2 n' (k'+part.length) bs' (pb'++part) k05 (.inr hp20) hT5 a16x hlenx hnx (by rw [List.length_append];omega) hfix (by omega) (fun z=>absurd z c2) (fun _=>hk2) ?_⟩
   rw [hspec,decide_eq_false c2,hk2,List.drop_length,List.append_nil,<-hpe,numbered_drop hg]
   show (if Hush.odd g.f=true then _ else _)=_
   rw [if_pos ho,if_pos (by rw [List.length_append];omega)]
  ·rw [dF] at c3
   have hfull:part.length=32 - pb'.length:=by omega
   have hl32:(pb'++part).length=32:=by rw [List.length_append];omega
   obtain ⟨ca5,sa5,dx5,hp5,hW5,hS5⟩:=hT5.ww
   refine ⟨_,rfl,p,dx5,_,rfl,.inl hp5,tfs_no _ _ _ _ _ (by decide+kernel),p,l,p2,c,key,bs',_,true,n',g,rfl,hT5,a16x,hlenx,hg,hl32,fun H6 pc6 k6 hpc6 hT6=>?_⟩
   obtain ⟨ca6,sa6,dx6,hp6,hW6,hS6⟩:=hT6.ww
   obtain ⟨w1,w2,w3⟩:=wf.gate _ g hg
   have hl1:=len_one g.f n' w1 (a16x.get (i:=g.a) (by omega)) (a16x.get (i:=g.b) (by omega)) hl32 hT.k16
   have a16y:=a16x.snoc hl1
   have hleny:(bs'++[Hush.one (bs'.getD g.a []) (bs'.getD g.b []) (pb'++part) key g.f n']).length=c.ins+(n'+1):=by rw [List.length_append,hlenx];rfl
   refine ⟨_,rfl,p,dx6,_,rfl,.inl hp6,hW6.fs.no _ (by simp),p,ca6,sa6,l,_,_,_,_,n'+1,rfl,hW6,HM.length_none16,hT6.lab,hleny,hnlt,a16y,fun H7 k7 hl7=>?_⟩
   have hT7:=hT6.relab k7 hl7
   have we:=works_even wf (key:=key) (s:=s.drop (k'+part.length)) _ (n'+1) _ rfl hnlt a16y hleny
   have hle':=nx_le (n:=n'+1) (show n'+1<=c.gates.length from hnlt)
   have hpc60:H pc6=none:=by
    cases e9:H pc6 with
    |none=>rfl
    |some o=>
     by_cases hi:pc6=p
     ·rw [hi,hp5] at hpc6
      cases hpc6
     ·by_cases hj:pc6=l
      ·rw [hj,hT5.lab] at hpc6
       cases hpc6
      ·have:=k05.at_ e9 (by simp;exact ⟨hi,hj⟩)
       rw [hpc6] at this
       cases this
   refine ⟨_,?_,nx c (n'+1),k'+part.length,_,[],pc6,_,_,rfl,rfl,(k05.trans k6).trans (k7.mono (by simp)),.inr hpc60,hT7,we.2.1,we.2.2,hle'.2,(by show 0 < 32;decide),nx_idem hnlt,by omega,fun _=>rfl,?_⟩
   ·omega
   ·rw [List.nil_append,<-we.1,hspec,numbered_drop hg]
    show (if Hush.odd g.f=true then _ else _)=_
    have h4:(pb'++s.drop k').length=pb'.length+(s.length - k'):=by rw [List.length_append,List.length_drop]
    have h5:s.drop k'=part++s.drop (k'+part.length):=by
     rw [hfull,hpart,<-List.drop_drop,List.take_append_drop]
    rw [if_pos ho,if_neg (by rw [h4];omega),h5,<-List.append_assoc,List.take_left' hl32,List.drop_left' hl32]
 ·simp only [Bool.not_eq_false',decide_eq_true_eq] at c2
  refine ⟨_,rfl,?_⟩
  refine k Hx pc' n' k' bs' pb' kx hpcx hTx a16x hlenx hnx hpbx hfix hkx hndx (fun z=>absurd c2 z) ?_
  rw [hspec,c2,numbered_end,decide_eq_true rfl]
  rfl
open Hushwork (Answer says taking)
structure TakerAt (A:Ad) (H:Hp) (p l pc:Addr) (x:STaker):Prop where
 gl:x.given.length=x.circ.ins
 g16:∀b,some b∈x.given->b.length=16
 cs:(x.labels=none/\x.left=[]/\x.fin=false/\TkAt A H p l pc x.circ x.key (x.given.map gvV) [] false)\/
  ∃bs n,x.labels=some bs/\All16 bs/\bs.length=x.circ.ins+n/\n<=x.circ.gates.length/\x.fin=decide (n=x.circ.gates.length)/\x.left.length < 32/\(n=x.circ.gates.length->x.left=[])/\nx x.circ n=n/\TkAt A H p l pc x.circ x.key (lV bs) x.left true
section
variable {A:Ad} {H H':Hp} {p l pc:Addr} {x:STaker}
theorem TakerAt.keep {F:List Addr} (h:TakerAt A H p l pc x) (k:Keep F H H') (h1:p∉F) (h2:l∉F) (h3:pc∉F):TakerAt A H' p l pc x:=
 ⟨h.gl,h.g16,h.cs.elim (fun ⟨a,b,c,d⟩=>.inl ⟨a,b,c,d.keep k h1 h2 h3⟩) fun ⟨bs,n,a,b,c,d,e,f,g,i,j⟩=>.inr ⟨bs,n,a,b,c,d,e,f,g,i,j.keep k h1 h2 h3⟩⟩
theorem TakerAt.same (h:TakerAt A H p l pc x) (k:Same H H'):TakerAt A H' p l pc x:=h.keep (k.keep (F:=[])) (by simp) (by simp) (by simp)
theorem TakerAt.tk (h:TakerAt A H p l pc x):∃ls n fed,TkAt A H p l pc x.circ x.key ls x.left fed/\ls.length=x.circ.ins+n/\fed=x.labels.isSome/\x.fin=(fed&&decide (n=x.circ.gates.length))/\(x.fin=true->∃bs,x.labels=some bs/\ls=lV bs/\All16 bs/\bs.length=x.circ.ins+x.circ.gates.length):=by
 rcases h.cs with ⟨a,b,c,d⟩|⟨bs,n,a,b,c,d,e,f,g,i,j⟩
 ·refine ⟨_,0,false,by rw [b];exact d,by rw [List.length_map,h.gl];rfl,by rw [a];rfl,by rw [c];rfl,fun z=>by rw [c] at z;cases z⟩
 ·refine ⟨_,n,true,j,by rw [lV_length,c],by rw [a];rfl,by rw [e];rfl,fun z=>⟨bs,a,rfl,b,?_⟩⟩
  rw [e,decide_eq_true_eq] at z
  rw [c,z]
end
def EndsT (A:Ad) (H:Hp) (p l pc:Addr) (Q:VK) (z:STaker×Answer):Prop:=∀(H':Hp) (q pc':Addr),Keep [p,l] H H'->(pc'=pc\/H pc'=none)->TakerAt A H' p l pc' z.1->H q=none->H' q=some (.lst (ansV z.2))->Q (.ref q) H'
theorem EndsT.stay {A:Ad} {H:Hp} {p l pc:Addr} {Q:VK} {x:STaker} {a:Answer} (hM:TakerAt A H p l pc x) (k:EndsT A H p l pc Q (x,a)):Ends1 H Q a:=fun H' q s hq e=>k H' q pc s.keep (.inl rfl) (hM.same s) hq e
def spGive (A:Ad):Sp:=fun vs H Q _=>∃(p an ar l pc:Addr) (x:STaker) (i:Nat) (b:Bytes),vs=[.ref p,.ref an,.ref ar]/\TakerAt A H p l pc x/\H an=some (.lst [.int (i:Int)])/\RowsOff [p,l] H ar [bV b]/\b.length=16/\EndsT A H p l pc Q (taking x (.give i b))
theorem sc_answer_give:FnScope ["taker","numbers","rows","i"] ["taker","numbers","rows"] (defScope s_answer_give):=scB
theorem gv_set (g:List (Option Bytes)) (i:Nat) (b:Bytes):(g.map gvV).set i (.int (ofBytes b:Nat))=(g.set i (some b)).map gvV:=by
 rw [List.map_set]
 rfl
theorem ok_answer_give (T:Txt K mg A):FnOk P w K mg base CX0 3 A.f_answer_give A.d_answer_give ["taker","numbers","rows"] (spGive A):=by
 refine T.answer_give.fn.okA sc_answer_give (fun _ _ _ _ H _ Q E hr h=>?_)
 obtain ⟨p,an,ar,l,pc,x,i,b,rfl,hM,hn,hR,hb,k⟩:=h
 refine ⟨_,(pss_cons (ps_asg (pe_ix (ixL K) (pv 1) pe_int (fun _ _=>rfl)) (pgN (i:=3) sc_answer_give.nd rfl (Or.inl rfl)))
  (pss_cons (ps_if (pt_not (truthK K (pe_methR (pv 0) (wkT T).cl (wkT T).m_has_input (ok_GateWalk_has_input T (wkT T)) (rm hr) T.GateWalk_has_input.bi .nil pass0 (pa_cons (pv 3) pa_nil)) (fun _=>rfl))) (pss_one (ps_ret (pe_call (ok_refusal T) (rm hr) rfl T.refusal.mg_ T.refusal.fn.kp T.refusal.bi .nil pass0 (pa_cons (pe_un un_neg pe_int) pa_nil)))) pss_nil)
  (pss_cons (ps_if (truthK K (fldK K (pv 0)) (fun _=>rfl)) (pss_one (ps_ret (pe_call (ok_refusal T) (rm hr) rfl T.refusal.mg_ T.refusal.fn.kp T.refusal.bi .nil pass0 (pa_cons (pe_un un_neg pe_int) pa_nil)))) pss_nil)
  (pss_cons (ps_expr (pe_methR (pv 0) (wkT T).cl (mt_Taker_keep_label T) (ok_Taker_keep_label T) (rm hr) T.Taker_keep_label.bi .nil pass0 (pa_cons (pv 3) (pa_cons (pe_call (ok_number_of T) (rm hr) rfl T.number_of.mg_ T.number_of.fn.kp T.number_of.bi .nil pass0 (pa_cons (pe_ix (ixL K) (pv 2) pe_int (fun _ _=>rfl)) pa_nil)) pa_nil))))
  (pss_one (ps_ret (pe_call (ok_reply T) (rm hr) rfl T.reply.mg_ T.reply.fn.kp T.reply.bi .nil pass0 (pa_cons pe_int (pa_cons (pe_lst pa_nil) (pa_cons (pe_lst pa_nil) pa_nil)))))))))),?_⟩
 obtain ⟨xs,sl,h1,h2,h3,h4⟩:=hR.row (i:=0) rfl (z:=0) rfl
 obtain ⟨ls,n,fed,hT,hls,hfed,hfin,_⟩:=hM.tk
 obtain ⟨ca,sa,dx,hp,hW,hS⟩:=hT.ww
 have hmk:taking x (.give i b)=if b.length≠16 then (x,says (-1)) else if x.circ.ins<=i then (x,says (-3)) else if x.labels.isSome=true then (x,says (-4)) else (⟨x.circ,x.key,x.given.set i (some b),x.labels,x.left,x.fin⟩,says 0):=rfl
 rw [hmk,if_neg (by rw [hb];decide)] at k
 refine ⟨_,rfl,an,_,_,_,rfl,rfl,SqL.of hn,rfl,fun σ' es=>?_⟩
 obtain rfl:σ'=[some (.ref p),some (.ref an),some (.ref ar),some (.int (i:Int))]:=es
 refine ⟨_,rfl,p,dx,_,rfl,.inl hp,hW.fs.no _ (by simp),_,rfl,p,ca,sa,l,_,_,_,i,rfl,hW,_,rfl,?_⟩
 refine iteB (fun c=>?_) fun c=>?_
 ·simp only [Bool.not_eq_true',decide_eq_false_iff_not] at c
  rw [if_pos (by omega)] at k
  exact ⟨_,rfl,_,rfl,fun H' q s1 hq e=>EndsT.stay hM k H' q s1 hq (by rw [<-rep_says];exact e)⟩
 ·simp only [Bool.not_eq_false',decide_eq_true_eq] at c
  rw [if_neg (by omega)] at k
  refine ⟨_,rfl,p,_,dx,_,_,rfl,.inl hp,T.c_Taker.cl,T.c_Taker.n,tfs_f _ _ _ _ _,_,rfl,iteB (fun c2=>?_) fun c2=>?_⟩
  ·rw [if_pos (by rw [<-hfed];exact c2)] at k
   exact ⟨_,rfl,_,rfl,fun H' q s1 hq e=>EndsT.stay hM k H' q s1 hq (by rw [<-rep_says];exact e)⟩
  ·rw [if_neg (by rw [<-hfed,c2];decide)] at k
   refine ⟨_,rfl,p,dx,_,rfl,.inl hp,tfs_no _ _ _ _ _ (by decide+kernel),_,rfl,_,rfl,ar,_,_,_,rfl,rfl,SqL.of h1,h2,sl,b,rfl,SqL.of h3,p,l,pc,_,_,ls,_,fed,i,_,rfl,hT,by omega,Nat.zero_le _,fun q1 hq1=>⟨Nat.zero_le _,fun q2 hq2=>?_⟩⟩
   have h12:q1≠q2:=(upd_none hq2).2.symm
   have k1:Keep [l] H (upd H l (.lst (ls.set i (.int (ofBytes b:Nat))))):=Keep.set hT.lab (fun z=>z) (by simp)
   have hT1:=hT.relab k1 upd_same
   obtain ⟨hq10,hq1l⟩:=upd_none hq1
   have tt:=Same.tn (Same.new hq1 (o:=.lst [])) hq2 (.lst [])
   refine ⟨_,q1,q2,[],[],rfl,by rw [upd_ne h12];exact upd_same,upd_same,Nat.zero_le _,Nat.zero_le _,fun H' q s2 hq e=>?_⟩
   rw [rep_says] at e
   have ss:=tt.trans s2
   have q0:H q=none:=(upd_none (tt.free hq)).1
   refine k H' q pc ((k1.mono (by simp)).trans ss.keep) (.inl rfl) ?_ q0 e
   rcases hM.cs with ⟨a,b',c',d⟩|⟨bs,n',a,_⟩
   ·have e2:ls=x.given.map gvV:=by
     have h8:=hT.lab
     rw [d.lab] at h8
     injection h8 with h8
     injection h8 with h8
     exact h8.symm
    refine ⟨by rw [List.length_set,hM.gl],fun y hy=>?_,.inl ⟨a,b',c',?_⟩⟩
    ·rcases List.mem_or_eq_of_mem_set hy with h7|h7
     ·exact hM.g16 y h7
     ·injection h7 with h7
      rw [h7,hb]
    ·show TkAt A H' p l pc x.circ x.key ((x.given.set i (some b)).map gvV) [] false
     rw [<-gv_set,<-e2,<-b',<-c2]
     exact hT1.same ss
   ·rw [a,c2] at hfed
    cases hfed
def spFeed (A:Ad):Sp:=fun vs H Q _=>∃(p an ar l pc:Addr) (x:STaker) (s:Bytes),vs=[.ref p,.ref an,.ref ar]/\TakerAt A H p l pc x/\RowsOff [p,l] H ar [bV s]/\EndsT A H p l pc Q (taking x (.feed s))
theorem sc_answer_feed:FnScope ["taker","numbers","rows","stream","taken"] ["taker","numbers","rows"] (defScope s_answer_feed):=scB
theorem gv_lV (g:List (Option Bytes)) (h:g.all (fun b=>b.isSome)=true):g.map gvV=lV (g.map fun b=>b.getD []):=by
 unfold lV
 rw [List.map_map]
 refine List.map_congr_left fun o ho=>?_
 cases o with
 |none=>exact absurd (List.all_eq_true.mp h _ ho) (by simp)
 |some b=>rfl
theorem gv_any (g:List (Option Bytes)):(g.map gvV).any (fun v=>decide (v=.non))=!g.all (fun b=>b.isSome):=by
 rw [List.any_map]
 induction g with
 |nil=>rfl
 |cons o r ih=>
  rw [List.any_cons,List.all_cons,ih]
  cases o with
  |none=>rfl
  |some b=>
   show (decide (V.int ((ofBytes b:Nat):Int)=V.non)||_)=_
   rw [decide_eq_false (by intro z;cases z)]
   rfl
theorem lV_any (bs:List Bytes):(lV bs).any (fun v=>decide (v=.non))=false:=by
 unfold lV
 rw [List.any_map]
 induction bs with
 |nil=>rfl
 |cons b r ih=>
  rw [List.any_cons,ih]
  show (decide (V.int ((ofBytes b:Nat):Int)=V.non)||_)=_
  rw [decide_eq_false (by intro z;cases z)]
  rfl
theorem TakerAt.rdy {H:Hp} {p l pc:Addr} {x:STaker} (h:TakerAt A H p l pc x):∃ls fed,TkAt A H p l pc x.circ x.key ls x.left fed/\ls.length<=100/\
  (x.ready=none/\ls.any (fun v=>decide (v=.non))=true\/∃bs n,x.ready=some bs/\ls.any (fun v=>decide (v=.non))=false/\ls=lV bs/\All16 bs/\bs.length=x.circ.ins+n/\n<=x.circ.gates.length/\x.left.length < 32/\(nx x.circ n=n\/x.left=[])/\(n=x.circ.gates.length->x.left=[])):=by
 have hin:x.circ.ins=x.circ.na+x.circ.nb:=rfl
 rcases h.cs with ⟨a,b,c,d⟩|⟨bs,n,a,b,c,d,e,f,g,i,j⟩
 ·have:=d.wf.na
  have:=d.wf.nb
  refine ⟨_,false,by rw [b];exact d,by rw [List.length_map,h.gl];omega,?_⟩
  have e:x.ready=if x.given.all (fun b=>b.isSome)=true then some (x.given.map fun b=>b.getD []) else none:=by
   unfold Hushwork.Taker.ready
   rw [a]
  by_cases hc:x.given.all (fun b=>b.isSome)=true
  ·rw [if_pos hc] at e
   refine .inr ⟨_,0,e,by rw [gv_any,hc];rfl,gv_lV _ hc,fun y hy=>?_,by rw [List.length_map,h.gl];rfl,Nat.zero_le _,by rw [b];decide,.inr b,fun _=>b⟩
   obtain ⟨o,ho,rfl⟩:=List.mem_map.mp hy
   have h3:=List.all_eq_true.mp hc o ho
   cases o with
   |none=>cases h3
   |some z=>exact h.g16 z ho
  ·rw [if_neg hc] at e
   refine .inl ⟨e,?_⟩
   rw [gv_any]
   simpa using hc
 ·have:=j.wf.na
  have:=j.wf.nb
  have:=j.wf.ng
  refine ⟨_,true,j,by rw [lV_length,c];omega,.inr ⟨bs,n,?_,lV_any _,rfl,b,c,d,f,.inl i,g⟩⟩
  unfold Hushwork.Taker.ready
  rw [a]
theorem ok_answer_feed (T:Txt K mg A):FnOk P w K mg base CX0 10 A.f_answer_feed A.d_answer_feed ["taker","numbers","rows"] (spFeed A):=by
 refine T.answer_feed.fn.okA sc_answer_feed (fun _ _ _ _ H _ Q E hr h=>?_)
 obtain ⟨p,an,ar,l,pc,x,s,rfl,hM,hR,k⟩:=h
 refine ⟨_,(pss_cons (ps_asg (pe_ix (ixL K) (pv 2) pe_int (fun _ _=>rfl)) (pgN (i:=3) sc_answer_feed.nd rfl (Or.inl rfl)))
  (pss_cons (ps_if (pt_cmpR op_gt (pe_callB (lenS K) (by rfl) T.n_len PySem.boot_len (pa_cons (pv 3) pa_nil)) (pe_gint rfl T.i_LONGEST_PIECE) (nomark _)) (pss_one (ps_ret (pe_call (ok_refusal T) (rm hr) rfl T.refusal.mg_ T.refusal.fn.kp T.refusal.bi .nil pass0 (pa_cons (pe_un un_neg pe_int) pa_nil)))) pss_nil)
  (pss_cons (ps_if (truthK K (pe_meth0R (pv 0) (wkT T).cl (mt_Taker_lacks_label T) (ok_Taker_lacks_label T) (rm hr) T.Taker_lacks_label.bi .nil pass0) (fun _=>rfl)) (pss_one (ps_ret (pe_call (ok_refusal T) (rm hr) rfl T.refusal.mg_ T.refusal.fn.kp T.refusal.bi .nil pass0 (pa_cons (pe_un un_neg pe_int) pa_nil)))) pss_nil)
  (pss_cons (ps_asg (pe_methR (pv 0) (wkT T).cl (mt_Taker_take_stream T) (ok_Taker_take_stream T) (rm hr) T.Taker_take_stream.bi .nil pass0 (pa_cons (pv 3) pa_nil)) (pgN (i:=4) sc_answer_feed.nd rfl (Or.inl rfl)))
  (pss_one (ps_ret (pe_call (ok_reply T) (rm hr) rfl T.reply.mg_ T.reply.fn.kp T.reply.bi .nil pass0 (pa_cons (pe_ifExp (truthK K (pe_meth0R (pv 0) (wkT T).cl (wkT T).m_all_done (ok_GateWalk_all_done T (wkT T)) (rm hr) T.GateWalk_all_done.bi .nil pass0) (fun _=>rfl)) pe_int pe_int) (pa_cons (pe_lst pa_nil) (pa_cons (pe_lst (pa_cons (pv 4) pa_nil)) pa_nil)))))))))),?_⟩
 obtain ⟨xs,sl,h1,h2,h3,h4⟩:=hR.row (i:=0) rfl (z:=0) rfl
 have hsl:sl≠l:=fun z=>h4 (by simp [z])
 refine ⟨_,rfl,ar,_,_,_,rfl,rfl,SqL.of h1,h2,fun σ' es=>?_⟩
 obtain rfl:σ'=[some (.ref p),some (.ref an),some (.ref ar),some (.ref sl),none]:=es
 obtain ⟨ls,fed,hT,hls,hrd⟩:=hM.rdy
 obtain ⟨ca,sa,dx,hp,hW,hS⟩:=hT.ww
 have hmk:taking x (.feed s)=if Hushwork.STREAM < s.length then (x,says (-2)) else (match x.ready with
  |none=>(x,says (-4))
  |some l=>((x.fed l s).1,Hushwork.tells ((Hushwork.one01 (x.fed l s).1.fin:Nat):Int) [(x.fed l s).2])):=rfl
 rw [hmk] at k
 refine ⟨_,rfl,sl,_,rfl,.inl (SqL.of h3),_,_,rfl,rfl,_,rfl,?_⟩
 rw [bV_length]
 refine iteB (fun c=>?_) fun c=>?_
 ·rw [dT] at c
  rw [if_pos (by show 2048 < _;omega)] at k
  exact ⟨_,rfl,_,rfl,fun H' q s1 hq e=>EndsT.stay hM k H' q s1 hq (by rw [<-rep_says];exact e)⟩
 rw [dF] at c
 rw [if_neg (by show ¬2048 < _;omega)] at k
 refine ⟨_,rfl,p,dx,_,rfl,.inl hp,tfs_no _ _ _ _ _ (by decide+kernel),p,l,pc,_,_,ls,_,fed,rfl,hT,by omega,fun H1 s1=>⟨_,rfl,?_⟩⟩
 rcases hrd with ⟨hr0,hany⟩|⟨bs,n,hr0,hany,rfl,a16,hlen,hn,hpb,hnp,hnd⟩
 ·rw [hany]
  rw [hr0] at k
  exact ⟨_,rfl,_,rfl,fun H' q s2 hq e=>EndsT.stay hM k H' q (s1.trans s2) (s1.free hq) (by rw [<-rep_says];exact e)⟩
 rw [hany]
 rw [hr0] at k
 have hT1:=hT.same s1
 have hp1:=s1 _ _ hp
 refine ⟨_,rfl,p,dx,_,rfl,.inl hp1,tfs_no _ _ _ _ _ (by decide+kernel),_,rfl,p,l,pc,sl,_,_,bs,_,s,fed,n,rfl,hT1,s1 _ _ h3,hsl,by omega,a16,hlen,hn,hpb,hnp,hnd,fun H2 pc' n' k' bs' pb' k2 hpc' hT2 a16' hlen' hn' hpb' hfix hk' hnd' hkk hw=>?_⟩
 refine fun σ' es=>?_
 obtain rfl:σ'=[some (.ref p),some (.ref an),some (.ref ar),some (.ref sl),some (.int (k':Int))]:=es
 have hfd:x.fed bs s=(⟨x.circ,x.key,x.given,some bs',pb',decide (n'=x.circ.gates.length)⟩,k'):=by
  unfold Hushwork.Taker.fed
  rw [show bs.length - x.circ.ins=n by omega,hw]
  dsimp only
  by_cases he:n'=x.circ.gates.length
  ·rw [decide_eq_true he,if_pos rfl,if_pos rfl,hnd' he,List.nil_append,List.length_drop]
   rw [show s.length - (s.length - k')=k' by omega]
  ·rw [decide_eq_false he,if_neg (by decide),if_neg (by decide),hkk he,List.drop_length,List.append_nil]
 dsimp only at k
 rw [hfd] at k
 dsimp only at k
 obtain ⟨ca2,sa2,dx2,hp2,hW2,hS2⟩:=hT2.ww
 refine ⟨_,rfl,p,dx2,_,rfl,.inl hp2,hW2.fs.no _ (by simp),p,ca2,sa2,l,_,_,_,_,n',rfl,hW2,hT2.lab,by rw [lV_length];exact hlen',_,rfl,?_⟩
 have fin:∀(v:Int),v=((Hushwork.one01 (decide (n'=x.circ.gates.length)):Nat):Int)->∀(H4:Hp) (q:Addr),Same H2 H4->H2 q=none->H4 q=some (.lst (repV v [] [.int (k':Int)]))->Q (.ref q) H4:=fun v hv H4 q s4 hq e=>by
  have q0:H q=none:=by
   refine s1.free ?_
   cases e9:H1 q with
   |none=>rfl
   |some o=>
    by_cases hi:q=p
    ·rw [hi,hp2] at hq
     cases hq
    ·by_cases hj:q=l
     ·rw [hj,hT2.lab] at hq
      cases hq
     ·have:=k2.at_ e9 (by simp;exact ⟨hi,hj⟩)
      rw [hq] at this
      cases this
  refine k H4 q pc' ((s1.keep.trans k2).trans s4.keep) (hpc'.imp id fun z=>s1.free z) ⟨hM.gl,hM.g16,.inr ⟨bs',n',rfl,a16',hlen',hn',rfl,hpb',hnd',hfix,hT2.same s4⟩⟩ q0 ?_
  rw [e,hv]
  exact congrArg (fun z=>some (HO.lst z)) (rep_ans _ [] [(k':Int)])
 refine iteB (fun c5=>?_) fun c5=>?_
 ·rw [dT] at c5
  refine ⟨Nat.zero_le _,fun q1 hq1=>⟨_,rfl,(by show 1<=sizeLine;decide),fun q2 hq2=>?_⟩⟩
  have h12:q1≠q2:=(upd_none hq2).2.symm
  have tt:=Same.tn (Same.new hq1 (o:=.lst [])) hq2 (.lst [.int (k':Int)])
  exact ⟨_,q1,q2,[],[.int (k':Int)],rfl,by rw [upd_ne h12];exact upd_same,upd_same,Nat.zero_le _,(by show 1<=2000;decide),fun H' q s2 hq e=>fin _ (by rw [decide_eq_true c5];rfl) H' q (tt.trans s2) (tt.free hq) e⟩
 ·rw [dF] at c5
  refine ⟨Nat.zero_le _,fun q1 hq1=>⟨_,rfl,(by show 1<=sizeLine;decide),fun q2 hq2=>?_⟩⟩
  have h12:q1≠q2:=(upd_none hq2).2.symm
  have tt:=Same.tn (Same.new hq1 (o:=.lst [])) hq2 (.lst [.int (k':Int)])
  exact ⟨_,q1,q2,[],[.int (k':Int)],rfl,by rw [upd_ne h12];exact upd_same,upd_same,Nat.zero_le _,(by show 1<=2000;decide),fun H' q s2 hq e=>fin _ (by rw [decide_eq_false c5];rfl) H' q (tt.trans s2) (tt.free hq) e⟩
def spLabel (A:Ad):Sp:=fun vs H Q _=>∃(p an ar l pc:Addr) (x:STaker) (j:Nat),vs=[.ref p,.ref an,.ref ar]/\TakerAt A H p l pc x/\H an=some (.lst [.int (j:Int)])/\EndsT A H p l pc Q (taking x (.label j))
theorem sc_answer_label:FnScope ["taker","numbers","rows","j"] ["taker","numbers","rows"] (defScope s_answer_label):=scB
theorem ok_answer_label (T:Txt K mg A):FnOk P w K mg base CX0 4 A.f_answer_label A.d_answer_label ["taker","numbers","rows"] (spLabel A):=by
 refine T.answer_label.fn.okA sc_answer_label (fun _ _ _ _ H _ Q E hr h=>?_)
 obtain ⟨p,an,ar,l,pc,x,j,rfl,hM,hn,k⟩:=h
 refine ⟨_,(pss_cons (ps_asg (pe_ix (ixL K) (pv 1) pe_int (fun _ _=>rfl)) (pgN (i:=3) sc_answer_label.nd rfl (Or.inl rfl)))
  (pss_cons (ps_if (pt_not (truthK K (pe_methR (pv 0) (wkT T).cl (wkT T).m_has_output (ok_GateWalk_has_output T (wkT T)) (rm hr) T.GateWalk_has_output.bi .nil pass0 (pa_cons (pv 3) pa_nil)) (fun _=>rfl))) (pss_one (ps_ret (pe_call (ok_refusal T) (rm hr) rfl T.refusal.mg_ T.refusal.fn.kp T.refusal.bi .nil pass0 (pa_cons (pe_un un_neg pe_int) pa_nil)))) pss_nil)
  (pss_cons (ps_if (pt_not (truthK K (pe_meth0R (pv 0) (wkT T).cl (mt_Taker_is_finished T) (ok_Taker_is_finished T) (rm hr) T.Taker_is_finished.bi .nil pass0) (fun _=>rfl))) (pss_one (ps_ret (pe_call (ok_refusal T) (rm hr) rfl T.refusal.mg_ T.refusal.fn.kp T.refusal.bi .nil pass0 (pa_cons (pe_un un_neg pe_int) pa_nil)))) pss_nil)
  (pss_one (ps_ret (pe_call (ok_reply T) (rm hr) rfl T.reply.mg_ T.reply.fn.kp T.reply.bi .nil pass0 (pa_cons pe_int (pa_cons (pe_call (ok_row_of T) (rm hr) rfl T.row_of.mg_ T.row_of.fn.kp T.row_of.bi .nil pass0 (pa_cons (pe_methR (pv 0) (wkT T).cl (wkT T).m_output_label (ok_GateWalk_output_label T (wkT T)) (rm hr) T.GateWalk_output_label.bi .nil pass0 (pa_cons (pv 3) pa_nil)) pa_nil)) (pa_cons (pe_lst pa_nil) pa_nil))))))))),?_⟩
 obtain ⟨ls,n,fed,hT,hls,hfed,hfin,hbs⟩:=hM.tk
 obtain ⟨ca,sa,dx,hp,hW,hS⟩:=hT.ww
 refine ⟨_,rfl,an,_,_,_,rfl,rfl,SqL.of hn,rfl,fun σ' es=>?_⟩
 obtain rfl:σ'=[some (.ref p),some (.ref an),some (.ref ar),some (.int (j:Int))]:=es
 refine ⟨_,rfl,p,dx,_,rfl,.inl hp,hW.fs.no _ (by simp),_,rfl,p,ca,sa,l,_,_,_,j,rfl,hW,_,rfl,?_⟩
 have k1:Ends1 H Q (x.ofOut j ⟨0,x.labelAt j,[]⟩):=EndsT.stay hM k
 unfold Hushwork.Taker.ofOut at k1
 refine iteB (fun c=>?_) fun c=>?_
 ·simp only [Bool.not_eq_true',decide_eq_false_iff_not] at c
  rw [if_pos (by omega)] at k1
  exact ⟨_,rfl,_,rfl,fun H' q s1 hq e=>k1 H' q s1 hq (by rw [<-rep_says];exact e)⟩
 ·simp only [Bool.not_eq_false',decide_eq_true_eq] at c
  rw [if_neg (by omega)] at k1
  refine ⟨_,rfl,p,dx,_,rfl,.inl hp,tfs_no _ _ _ _ _ (by decide+kernel),p,l,pc,_,_,ls,_,fed,n,rfl,hT,hls,_,rfl,?_⟩
  rw [<-hfin]
  refine iteB (fun c2=>?_) fun c2=>?_
  ·simp only [Bool.not_eq_true'] at c2
   rw [if_pos c2] at k1
   exact ⟨_,rfl,_,rfl,fun H' q s1 hq e=>k1 H' q s1 hq (by rw [<-rep_says];exact e)⟩
  ·simp only [Bool.not_eq_false'] at c2
   rw [if_neg (by rw [c2];decide)] at k1
   obtain ⟨bs,hb1,rfl,a16,hlen⟩:=hbs c2
   have hla:x.labelAt j=bs.getD (Hushwork.wire x.circ j) []:=by
    unfold Hushwork.Taker.labelAt
    rw [hb1]
    rfl
   have hl16:(bs.getD (Hushwork.wire x.circ j) []).length=16:=a16.get (by rw [hlen];exact wire_lt hT.wf c)
   refine ⟨_,rfl,p,dx,_,rfl,.inl hp,hW.fs.no _ (by simp),_,rfl,p,ca,sa,l,_,_,_,j,bs,rfl,hW,c,hT.lab,hlen,_,rfl,fun q1 hq1=>⟨Nat.zero_le _,fun q2 hq2=>?_⟩⟩
   rw [HM.toBytes16 hl16] at hq2 ⊢
   have h12:q1≠q2:=(upd_none hq2).2.symm
   have tt:=Same.tn (Same.new hq1 (o:=.lst (bV (bs.getD (Hushwork.wire x.circ j) [])))) hq2 (.lst [])
   refine ⟨_,q1,q2,_,[],rfl,by rw [upd_ne h12];exact upd_same,upd_same,?_,Nat.zero_le _,fun H' q s2 hq e=>?_⟩
   ·rw [bV_length,hl16];decide
   rw [rep_bytes,<-hla] at e
   exact k1 H' q (tt.trans s2) (tt.free hq) e
def spBit (A:Ad):Sp:=fun vs H Q _=>∃(p an ar l pc:Addr) (x:STaker) (j b:Nat),vs=[.ref p,.ref an,.ref ar]/\TakerAt A H p l pc x/\H an=some (.lst [.int (j:Int),.int (b:Int)])/\EndsT A H p l pc Q (taking x (.bit j b))
theorem sc_answer_bit:FnScope ["taker","numbers","rows","j","hint"] ["taker","numbers","rows"] (defScope s_answer_bit):=scB
theorem ok_answer_bit (T:Txt K mg A):FnOk P w K mg base CX0 4 A.f_answer_bit A.d_answer_bit ["taker","numbers","rows"] (spBit A):=by
 refine T.answer_bit.fn.okA sc_answer_bit (fun _ _ _ _ H _ Q E hr h=>?_)
 obtain ⟨p,an,ar,l,pc,x,j,b,rfl,hM,hn,k⟩:=h
 refine ⟨_,(pss_cons (ps_asg (pe_ix (ixL K) (pv 1) pe_int (fun _ _=>rfl)) (pgN (i:=3) sc_answer_bit.nd rfl (Or.inl rfl)))
  (pss_cons (ps_asg (pe_ix (ixL K) (pv 1) pe_int (fun _ _=>rfl)) (pgN (i:=4) sc_answer_bit.nd rfl (Or.inl rfl)))
  (pss_cons (ps_if (PW.pt (pw_or (pt_not (truthK K (pe_methR (pv 0) (wkT T).cl (wkT T).m_has_output (ok_GateWalk_has_output T (wkT T)) (rm hr) T.GateWalk_has_output.bi .nil pass0 (pa_cons (pv 3) pa_nil)) (fun _=>rfl))) (pw_or1 (pt_cmpR op_gt (pv 4) pe_int (nomark _))))) (pss_one (ps_ret (pe_call (ok_refusal T) (rm hr) rfl T.refusal.mg_ T.refusal.fn.kp T.refusal.bi .nil pass0 (pa_cons (pe_un un_neg pe_int) pa_nil)))) pss_nil)
  (pss_cons (ps_if (pt_not (truthK K (pe_meth0R (pv 0) (wkT T).cl (mt_Taker_is_finished T) (ok_Taker_is_finished T) (rm hr) T.Taker_is_finished.bi .nil pass0) (fun _=>rfl))) (pss_one (ps_ret (pe_call (ok_refusal T) (rm hr) rfl T.refusal.mg_ T.refusal.fn.kp T.refusal.bi .nil pass0 (pa_cons (pe_un un_neg pe_int) pa_nil)))) pss_nil)
  (pss_one (ps_ret (pe_call (ok_reply T) (rm hr) rfl T.reply.mg_ T.reply.fn.kp T.reply.bi .nil pass0 (pa_cons (pe_op op_xor (pe_call (ok_colour T) (rm hr) rfl T.colour.mg_ T.colour.fn.kp T.colour.bi .nil pass0 (pa_cons (pe_methR (pv 0) (wkT T).cl (wkT T).m_output_label (ok_GateWalk_output_label T (wkT T)) (rm hr) T.GateWalk_output_label.bi .nil pass0 (pa_cons (pv 3) pa_nil)) pa_nil)) (pv 4)) (pa_cons (pe_lst pa_nil) (pa_cons (pe_lst pa_nil) pa_nil)))))))))),?_⟩
 obtain ⟨ls,n,fed,hT,hls,hfed,hfin,hbs⟩:=hM.tk
 obtain ⟨ca,sa,dx,hp,hW,hS⟩:=hT.ww
 have k1:Ends1 H Q (if 1 < b then says (-3) else x.ofOut j (says (Hushwork.one01 (Hush.colour (x.labelAt j) != (b == 1)):Nat))):=EndsT.stay hM k
 refine ⟨_,rfl,an,_,_,_,rfl,rfl,SqL.of hn,rfl,fun σ' es=>?_⟩
 obtain rfl:σ'=[some (.ref p),some (.ref an),some (.ref ar),some (.int (j:Int)),none]:=es
 refine ⟨_,rfl,an,_,_,_,rfl,rfl,SqL.of hn,rfl,fun σ' es=>?_⟩
 obtain rfl:σ'=[some (.ref p),some (.ref an),some (.ref ar),some (.int (j:Int)),some (.int (b:Int))]:=es
 unfold Hushwork.Taker.ofOut at k1
 refine ⟨_,rfl,p,dx,_,rfl,.inl hp,hW.fs.no _ (by simp),_,rfl,p,ca,sa,l,_,_,_,j,rfl,hW,_,rfl,?_⟩
 refine iteB (fun c=>?_) fun c=>?_
 ·simp only [Bool.not_eq_true',decide_eq_false_iff_not] at c
  rw [if_pos (show x.circ.outs.length<=j by omega),ite_self] at k1
  exact ⟨_,rfl,_,rfl,fun H' q s1 hq e=>k1 H' q s1 hq (by rw [<-rep_says];exact e)⟩
 ·simp only [Bool.not_eq_false',decide_eq_true_eq] at c
  refine ⟨_,rfl,_,_,rfl,rfl,_,rfl,iteB (fun c2=>?_) fun c2=>?_⟩
  ·rw [dT] at c2
   rw [if_pos (by omega)] at k1
   exact ⟨_,rfl,_,rfl,fun H' q s1 hq e=>k1 H' q s1 hq (by rw [<-rep_says];exact e)⟩
  ·rw [dF] at c2
   have hb:b<=1:=by omega
   rw [if_neg (by omega),if_neg (by omega)] at k1
   obtain ⟨bb,rfl⟩:∃bb:Bool,b=bb.toNat:=by
    match b,hb with
    |0,_=>exact ⟨false,rfl⟩
    |1,_=>exact ⟨true,rfl⟩
   have e1:(bb.toNat == 1)=bb:=by cases bb <;> rfl
   rw [e1] at k1
   refine ⟨_,rfl,p,dx,_,rfl,.inl hp,tfs_no _ _ _ _ _ (by decide+kernel),p,l,pc,_,_,ls,_,fed,n,rfl,hT,hls,_,rfl,?_⟩
   rw [<-hfin]
   refine iteB (fun c3=>?_) fun c3=>?_
   ·simp only [Bool.not_eq_true'] at c3
    rw [if_pos c3] at k1
    exact ⟨_,rfl,_,rfl,fun H' q s1 hq e=>k1 H' q s1 hq (by rw [<-rep_says];exact e)⟩
   ·simp only [Bool.not_eq_false'] at c3
    rw [if_neg (by rw [c3];decide)] at k1
    obtain ⟨bs,hb1,rfl,a16,hlen⟩:=hbs c3
    have hla:x.labelAt j=bs.getD (Hushwork.wire x.circ j) []:=by
     unfold Hushwork.Taker.labelAt
     rw [hb1]
     rfl
    refine ⟨_,rfl,p,dx,_,rfl,.inl hp,hW.fs.no _ (by simp),_,rfl,p,ca,sa,l,_,_,_,j,bs,rfl,hW,c,hT.lab,hlen,_,rfl,_,rfl,_,_,rfl,rfl,Nat.zero_le _,fun q1 hq1=>⟨Nat.zero_le _,fun q2 hq2=>?_⟩⟩
    have h12:q1≠q2:=(upd_none hq2).2.symm
    have tt:=Same.tn (Same.new hq1 (o:=.lst [])) hq2 (.lst [])
    refine ⟨_,q1,q2,[],[],rfl,by rw [upd_ne h12];exact upd_same,upd_same,Nat.zero_le _,Nat.zero_le _,fun H' q s2 hq e=>?_⟩
    rw [rep_says,bxb,<-hla] at e
    refine k1 H' q (tt.trans s2) (tt.free hq) ?_
    rw [e]
    refine congrArg (fun z=>some (HO.lst (ansV (says z)))) ?_
    cases (Hush.colour (x.labelAt j) != bb) <;> rfl
def TakIs (H:Hp) (n:Int) (an ar p l:Addr) (x:Hushwork.Call):Prop:=
 (n=17/\∃(i:Nat) (b:Bytes),H an=some (.lst [.int (i:Int)])/\RowsOff [p,l] H ar [bV b]/\b.length=16/\x=.give i b)\/(n=18/\∃s:Bytes,RowsOff [p,l] H ar [bV s]/\x=.feed s)\/
 (n=19/\∃j:Nat,H an=some (.lst [.int (j:Int)])/\x=.label j)\/(n=20/\∃j b:Nat,H an=some (.lst [.int (j:Int),.int (b:Int)])/\x=.bit j b)
def spTk (A:Ad):Sp:=fun vs H Q _=>∃(p an ar l pc:Addr) (n:Int) (m:STaker) (x:Hushwork.Call),vs=[.ref p,.int n,.ref an,.ref ar]/\TakerAt A H p l pc m/\TakIs H n an ar p l x/\EndsT A H p l pc Q (taking m x)
theorem sc_taker_answer:FnScope ["taker","number","numbers","rows","answer"] ["taker","number","numbers","rows"] (defScope s_taker_answer):=scB
theorem ok_taker_answer (T:Txt K mg A):FnOk P w K mg base CX0 11 A.f_taker_answer A.d_taker_answer ["taker","number","numbers","rows"] (spTk A):=by
 refine T.taker_answer.fn.okA sc_taker_answer (fun _ _ _ _ H _ Q E hr h=>?_)
 obtain ⟨p,an,ar,l,pc,n,m,x,rfl,hM,h,k⟩:=h
 rcases h with ⟨rfl,i,b,hn,hR,hb,rfl⟩|⟨rfl,s,hR,rfl⟩|⟨rfl,j,hn,rfl⟩|⟨rfl,j,b,hn,rfl⟩
 ·refine ⟨_,(pss_cons (ps_asg (kgetK K (pe_gref rfl T.t_TAKER_CALLS.mg_) (pv 1) (fun _ _=>rfl)) (pgN (i:=4) sc_taker_answer.nd rfl (Or.inl rfl)))
  (pss_one (ps_ret (pe_callV (i:=4) (ok_answer_give T) (rm hr) rfl (Or.inl rfl) T.answer_give.fn.kp T.answer_give.bi .nil pass0 (pa_cons (pv 0) (pa_cons (pv 2) (pa_cons (pv 3) pa_nil))))))),?_⟩
  refine ⟨_,rfl,_,_,_,_,rfl,T.t_TAKER_CALLS.dk,rfl,rfl,fun σ' es=>?_⟩
  subst es
  exact ⟨rfl,_,rfl,_,rfl,_,rfl,p,an,ar,l,pc,m,i,b,rfl,hM,hn,hR,hb,k⟩
 ·refine ⟨_,(pss_cons (ps_asg (kgetK K (pe_gref rfl T.t_TAKER_CALLS.mg_) (pv 1) (fun _ _=>rfl)) (pgN (i:=4) sc_taker_answer.nd rfl (Or.inl rfl)))
  (pss_one (ps_ret (pe_callV (i:=4) (ok_answer_feed T) (rm hr) rfl (Or.inl rfl) T.answer_feed.fn.kp T.answer_feed.bi .nil pass0 (pa_cons (pv 0) (pa_cons (pv 2) (pa_cons (pv 3) pa_nil))))))),?_⟩
  refine ⟨_,rfl,_,_,_,_,rfl,T.t_TAKER_CALLS.dk,rfl,rfl,fun σ' es=>?_⟩
  subst es
  exact ⟨rfl,_,rfl,_,rfl,_,rfl,p,an,ar,l,pc,m,s,rfl,hM,hR,k⟩
 ·refine ⟨_,(pss_cons (ps_asg (kgetK K (pe_gref rfl T.t_TAKER_CALLS.mg_) (pv 1) (fun _ _=>rfl)) (pgN (i:=4) sc_taker_answer.nd rfl (Or.inl rfl)))
  (pss_one (ps_ret (pe_callV (i:=4) (ok_answer_label T) (rm hr) rfl (Or.inl rfl) T.answer_label.fn.kp T.answer_label.bi .nil pass0 (pa_cons (pv 0) (pa_cons (pv 2) (pa_cons (pv 3) pa_nil))))))),?_⟩
  refine ⟨_,rfl,_,_,_,_,rfl,T.t_TAKER_CALLS.dk,rfl,rfl,fun σ' es=>?_⟩
  subst es
  exact ⟨rfl,_,rfl,_,rfl,_,rfl,p,an,ar,l,pc,m,j,rfl,hM,hn,k⟩
 ·refine ⟨_,(pss_cons (ps_asg (kgetK K (pe_gref rfl T.t_TAKER_CALLS.mg_) (pv 1) (fun _ _=>rfl)) (pgN (i:=4) sc_taker_answer.nd rfl (Or.inl rfl)))
  (pss_one (ps_ret (pe_callV (i:=4) (ok_answer_bit T) (rm hr) rfl (Or.inl rfl) T.answer_bit.fn.kp T.answer_bit.bi .nil pass0 (pa_cons (pv 0) (pa_cons (pv 2) (pa_cons (pv 3) pa_nil))))))),?_⟩
  refine ⟨_,rfl,_,_,_,_,rfl,T.t_TAKER_CALLS.dk,rfl,rfl,fun σ' es=>?_⟩
  subst es
  exact ⟨rfl,_,rfl,_,rfl,_,rfl,p,an,ar,l,pc,m,j,b,rfl,hM,hn,k⟩
def tfl (r:Addr) (k:Nat):List (Str×V):=[("row",.ref r),("at",.int (k:Int))]
structure TextAt (A:Ad) (H:Hp) (p r:Addr) (k:Nat) (s:Bytes):Prop where
 ex:∃dx,H p=some (.ins A.c_CircuitText dx (tfl r k))
 row:H r=some (.lst (bV s))
theorem tfl_row (r:Addr) (k:Nat):(tfl r k).lookup ("row":Str)=some (.ref r):=rfl
theorem tfl_at (r:Addr) (k:Nat):(tfl r k).lookup ("at":Str)=some (.int (k:Int)):=by
 unfold tfl
 rw [List.lookup_cons,show (("at":Str) == "row")=false by decide+kernel]
 rfl
theorem tfl_put (r:Addr) (k j:Nat):putF "at" (.int (j:Int)) (tfl r k)=tfl r j:=by
 unfold tfl
 simp only [putF,show ¬("row":Str)="at" by decide+kernel,if_false,if_true]
theorem tfl_no {r:Addr} {k:Nat} {m:Str} (h:(["row","at"]:List Str).all (fun x=>!(m == x))=true):(tfl r k).lookup m=none:=by
 simp only [List.all_cons,List.all_nil,Bool.and_true,Bool.and_eq_true,Bool.not_eq_true'] at h
 unfold tfl
 simp only [List.lookup_cons,h.1,h.2]
 rfl
def Wrong (A:Ad) (F:List Addr) (H:Hp) (n:Nat) (E:XK):Prop:=∀(H':Hp) (dx:Addr),Keep F H H'->H' dx=some (.xd [("place",.int (n:Int))])->E (.ref A.c_GoesWrong) (some dx) H'
def spWI (A:Ad):Sp:=fun vs H Q _=>∃(p tt:Addr) (v:V),vs=[.ref p,v]/\H p=some (excO A.c_GoesWrong tt none p)/\∀dx,H dx=none->Q .non (upd (upd H p (excO A.c_GoesWrong tt (some dx) p)) dx (.xd [("place",v)]))
theorem sc_GoesWrong_init:FnScope ["self","place"] ["self","place"] (defScope s_GoesWrong_init):=scB
theorem no_place:typeLookup (.type "Exception") "place"=pure none:=by rw [typeLookup_type,builtinLookup_eq_fast];kernel_rfl
theorem ok_GoesWrong_init (T:Txt K mg A):FnOk P w K mg base CX0 1 A.f_GoesWrong_init A.d_GoesWrong_init ["self","place"] (spWI A):=by
 refine T.GoesWrong_init.fn.okA sc_GoesWrong_init (fun _ _ _ _ H _ Q E hr h=>?_)
 obtain ⟨p,tt,v,rfl,hp,k⟩:=h
 refine ⟨_,(pss_one (ps_fldX (C:=A.c_GoesWrong) (fI:=A.f_GoesWrong_init) (pv 0) (pv 1) rfl)),?_⟩
 exact ⟨_,rfl,_,rfl,p,tt,rfl,hp,T.ex_GoesWrong,no_place,k⟩
def spXInit (A:Ad):Sp:=fun vs H Q _=>∃(p dx r:Addr),vs=[.ref p,.ref r]/\H p=some (.ins A.c_CircuitText dx [])/\Q .non (upd H p (.ins A.c_CircuitText dx (tfl r 0)))
theorem sc_CircuitText_init:FnScope ["self","row"] ["self","row"] (defScope s_CircuitText_init):=scB
theorem ok_CircuitText_init (T:Txt K mg A):FnOk P w K mg base CX0 1 A.f_CircuitText_init A.d_CircuitText_init ["self","row"] (spXInit A):=by
 refine T.CircuitText_init.fn.okA sc_CircuitText_init (fun _ _ _ _ H _ Q E hr h=>?_)
 obtain ⟨p,dx,r,rfl,hp,k⟩:=h
 refine ⟨_,(pss_cons (ps_fld (pv 0) (pv 1) rfl)
  (pss_one (ps_fld (pv 0) pe_int rfl))),?_⟩
 refine ⟨_,rfl,_,rfl,p,_,dx,_,rfl,hp,T.c_CircuitText.cl,T.c_CircuitText.n,(by show 0 < 1000;decide),?_⟩
 refine ⟨_,rfl,p,_,dx,_,rfl,upd_same,T.c_CircuitText.cl,T.c_CircuitText.n,(by show 1 < 1000;decide),?_⟩
 rw [upd_upd]
 have e:putF "at" (.int 0) (putF "row" (.ref r) [])=tfl r 0:=by
  unfold tfl
  simp only [putF,show ¬("row":Str)="at" by decide+kernel,if_false]
  rfl
 rw [e]
 exact k
def spTake (A:Ad):Sp:=fun vs H Q E=>∃(p r:Addr) (k w:Nat) (lo hi:Int) (s:Bytes) (good:Nat->Bool),vs=[.ref p,.int (w:Int),.int lo,.int hi]/\TextAt A H p r k s/\k<=s.length/\(∀x:Nat,good x=decide (lo<=(x:Int)/\(x:Int)<=hi))/\
 (∀x k',Hush.numOk s w k good=.ok (x,k')->∀H',Keep [p] H H'->TextAt A H' p r k' s->k'<=s.length->Q (.int (x:Int)) H')/\∀n,Hush.numOk s w k good=.error n->Wrong A [p] H n E
theorem sc_CircuitText_take:FnScope ["self","width","least","most","start","number"] ["self","width","least","most"] (defScope s_CircuitText_take):=scB
theorem raised {F:List Addr} {H H1:Hp} {n:Nat} {E:XK} (hw:Wrong A F H n E) (k:Keep F H H1) {x tt:Addr} (hx:H1 x=none) (hx0:H x=none):∀dx,(upd H1 x (excO A.c_GoesWrong tt none x)) dx=none->
  E (.ref A.c_GoesWrong) (some dx) (rem (upd (upd (upd H1 x (excO A.c_GoesWrong tt none x)) x (excO A.c_GoesWrong tt (some dx) x)) dx (.xd [("place",.int (n:Int))])) x):=fun dx hdx=>by
 obtain ⟨hd1,hdx2⟩:=upd_none hdx
 refine hw _ dx (fun b o e c=>?_) ?_
 ·have hb:=k b o e c
  have hbx:b≠x:=fun z=>by rw [z,hx0] at e;cases e
  have hbd:b≠dx:=fun z=>by rw [z,hd1] at hb;cases hb
  rw [rem_ne hbx,upd_ne hbd,upd_ne hbx,upd_ne hbx]
  exact hb
 ·rw [rem_ne hdx2,upd_same]
theorem ok_CircuitText_take (T:Txt K mg A):FnOk P w K mg base (CX1 P w) 3 A.f_CircuitText_take A.d_CircuitText_take ["self","width","least","most"] (spTake A):=by
 refine T.CircuitText_take.fn.okX sc_CircuitText_take (fun vs H Q E h=>?_) (fun _ _ _ _ H _ Q E hr h=>?_)
 ·obtain ⟨p,r,k,w,lo,hi,s,good,rfl,_⟩:=h
  rfl
 ·obtain ⟨p,r,i,w,lo,hi,s,good,rfl,hX,hi',hgood,k1,k2⟩:=h
  refine ⟨_,(pss_cons (ps_asg (fldK K (pv 0)) (pgN (i:=4) sc_CircuitText_take.nd rfl (Or.inl rfl)))
   (pss_cons (ps_if (pt_cmpR op_gt (pe_op op_add (pv 4) (pv 1)) (pe_callB (lenS K) (by rfl) T.n_len PySem.boot_len (pa_cons (fldK K (pv 0)) pa_nil)) (nomark _)) (pss_one (ps_raise T.ex_GoesWrong rfl raiseOk_cx (pe_makeX (f:="place") (ok_GoesWrong_init T) (rm hr) rfl T.mg_GoesWrong T.kp_GoesWrong T.GoesWrong_init.bi (pa_cons (pe_callB (lenS K) (by rfl) T.n_len PySem.boot_len (pa_cons (fldK K (pv 0)) pa_nil)) pa_nil)))) pss_nil)
   (pss_cons (ps_asg (pe_call (ok_number_of T) (rm hr) rfl T.number_of.mg_ T.number_of.fn.kp T.number_of.bi .nil pass0 (pa_cons (pe_slice (slL K) (fldK K (pv 0)) (po_some (pv 4)) (po_some (pe_op op_add (pv 4) (pv 1)))) pa_nil)) (pgN (i:=5) sc_CircuitText_take.nd rfl (Or.inl rfl)))
   (pss_cons (ps_if (PW.pt (pw_or (pt_cmpR op_lt (pv 5) (pv 2) (nomark _)) (pw_or1 (pt_cmpR op_gt (pv 5) (pv 3) (nomark _))))) (pss_one (ps_raise T.ex_GoesWrong rfl raiseOk_cx (pe_makeX (f:="place") (ok_GoesWrong_init T) (rm hr) rfl T.mg_GoesWrong T.kp_GoesWrong T.GoesWrong_init.bi (pa_cons (pv 4) pa_nil)))) pss_nil)
   (pss_cons (ps_fld (pv 0) (pe_op op_add (pv 4) (pv 1)) rfl)
   (pss_one (ps_ret (pv 5)))))))),?_⟩
  obtain ⟨⟨dx,hp⟩,hrow⟩:=hX
  have cl:=T.c_CircuitText.cl
  refine ⟨_,rfl,p,_,dx,_,_,rfl,.inl hp,cl,T.c_CircuitText.n,tfl_at _ _,fun σ' es=>?_⟩
  obtain rfl:σ'=[some (.ref p),some (.int (w:Int)),some (.int lo),some (.int hi),some (.int (i:Int)),none]:=es
  refine ⟨_,rfl,_,rfl,_,_,rfl,rfl,_,rfl,p,_,dx,_,_,rfl,.inl hp,cl,T.c_CircuitText.n,tfl_row _ _,r,_,rfl,.inl (SqL.of hrow),_,_,rfl,rfl,_,rfl,?_⟩
  rw [bV_length]
  refine iteB (fun c=>?_) fun c=>?_
  ·rw [dT] at c
   have hno:Hush.numOk s w i good=.error s.length:=by
    unfold Hush.numOk Hush.num
    rw [if_neg (by omega)]
    rfl
   refine ⟨_,rfl,p,_,dx,_,_,rfl,.inl hp,cl,T.c_CircuitText.n,tfl_row _ _,r,_,rfl,.inl (SqL.of hrow),T.ex_GoesWrong,(by show 1<=100;decide),fun x tt hx=>⟨x,tt,_,rfl,upd_same,fun d hd=>⟨rfl,x,d,_,tt,rfl,?_,rfl,?_⟩⟩⟩
   ·rw [upd_ne (upd_none hd).2.symm,upd_same]
   ·rw [bV_length]
    exact raised (k2 _ hno) Keep.refl hx hx d hd
  ·rw [dF] at c
   have hle:i+w<=s.length:=by omega
   refine ⟨_,rfl,p,_,dx,_,_,rfl,.inl hp,cl,T.c_CircuitText.n,tfl_row _ _,_,rfl,_,rfl,_,rfl,_,rfl,_,_,rfl,rfl,_,rfl,r,_,rfl,SqL.of hrow,fun cu hcu=>?_⟩
   have e33:(i:Int)+(w:Int)=((i+w:Nat):Int):=by omega
   rw [e33,bV_cut,show i+w - i=w by omega]
   have s1:Same H (upd H cu (.lst (bV ((s.drop i).take w)))):=Same.new hcu
   refine ⟨cu,_,rfl,SqL.of upd_same,fun σ' es=>?_⟩
   obtain rfl:σ'=[some (.ref p),some (.int (w:Int)),some (.int lo),some (.int hi),some (.int (i:Int)),some (.int (ofBytes ((s.drop i).take w):Nat))]:=es
   have hnum:Hush.numOk s w i good=if good (ofBytes ((s.drop i).take w))=true then .ok (ofBytes ((s.drop i).take w),i+w) else .error i:=by
    unfold Hush.numOk Hush.num
    rw [if_pos hle]
    rfl
   generalize ofBytes ((s.drop i).take w)=x at hnum
   rw [hgood] at hnum
   have hp1:=s1 _ _ hp
   have hrow1:=s1 _ _ hrow
   generalize upd H cu (.lst (bV ((s.drop i).take w)))=H1 at s1 hp1 hrow1
   have bad:¬(lo<=(x:Int)/\(x:Int)<=hi)->tRaise (fun c d H=>c=.ref A.c_GoesWrong/\E c d H) (tMakeX K A.c_GoesWrong A.f_GoesWrong_init "place" (spWI A) (tCons (tVar 4) tNil)) {nx:=fun _ _=>True,rt:=fun _ _=>True} [some (.ref p),some (.int (w:Int)),some (.int lo),some (.int hi),some (.int (i:Int)),some (.int (x:Int))] H1:=fun hb=>by
    rw [if_neg (by rw [decide_eq_false hb];decide)] at hnum
    refine ⟨_,rfl,T.ex_GoesWrong,(by show 1<=100;decide),fun x tt hx=>⟨x,tt,_,rfl,upd_same,fun d hd=>⟨rfl,x,d,_,tt,rfl,?_,rfl,?_⟩⟩⟩
    ·rw [upd_ne (upd_none hd).2.symm,upd_same]
    ·exact raised (k2 _ hnum) s1.keep hx (s1.free hx) d hd
   refine ⟨_,rfl,_,rfl,_,_,rfl,rfl,_,rfl,iteB (fun c2=>?_) fun c2=>?_⟩
   ·rw [dT] at c2
    exact bad (by omega)
   ·rw [dF] at c2
    refine ⟨_,rfl,_,rfl,_,_,rfl,rfl,_,rfl,iteB (fun c3=>?_) fun c3=>?_⟩
    ·rw [dT] at c3
     exact bad (by omega)
    ·rw [dF] at c3
     rw [if_pos (by rw [decide_eq_true (show lo<=(x:Int)/\(x:Int)<=hi by omega)])] at hnum
     refine ⟨_,rfl,_,rfl,_,_,rfl,rfl,_,rfl,p,_,dx,_,rfl,hp1,cl,T.c_CircuitText.n,(by show 2 < 1000;decide),_,rfl,?_⟩
     dsimp only
     rw [e33,tfl_put]
     have k3:Keep [p] H1 (upd H1 p (.ins A.c_CircuitText dx (tfl r (i+w)))):=Keep.set hp1 (fun z=>z) (by simp)
     have hrp:r≠p:=fun z=>by rw [z,hp] at hrow;cases hrow
     exact k1 _ _ hnum _ (s1.keep.trans k3) ⟨⟨dx,upd_same⟩,k3.at_ hrow1 (by simp;exact hrp)⟩ hle
def spFin (A:Ad):Sp:=fun vs H Q E=>∃(p r:Addr) (k:Nat) (s:Bytes),vs=[.ref p]/\TextAt A H p r k s/\k<=s.length/\(k=s.length->Q .non H)/\(k≠s.length->Wrong A [p] H k E)
theorem sc_CircuitText_finish:FnScope ["self"] ["self"] (defScope s_CircuitText_finish):=scB
theorem ok_CircuitText_finish (T:Txt K mg A):FnOk P w K mg base (CX1 P w) 3 A.f_CircuitText_finish A.d_CircuitText_finish ["self"] (spFin A):=by
 refine T.CircuitText_finish.fn.okX sc_CircuitText_finish (fun vs H Q E h=>?_) (fun _ _ _ _ H _ Q E hr h=>?_)
 ·obtain ⟨p,r,k,s,rfl,_⟩:=h
  rfl
 ·obtain ⟨p,r,i,s,rfl,hX,hi',k1,k2⟩:=h
  refine ⟨_,(pss_one (ps_if (pt_cmpR op_lt (fldK K (pv 0)) (pe_callB (lenS K) (by rfl) T.n_len PySem.boot_len (pa_cons (fldK K (pv 0)) pa_nil)) (nomark _)) (pss_one (ps_raise T.ex_GoesWrong rfl raiseOk_cx (pe_makeX (f:="place") (ok_GoesWrong_init T) (rm hr) rfl T.mg_GoesWrong T.kp_GoesWrong T.GoesWrong_init.bi (pa_cons (fldK K (pv 0)) pa_nil)))) pss_nil)),?_⟩
  obtain ⟨⟨dx,hp⟩,hrow⟩:=hX
  have cl:=T.c_CircuitText.cl
  refine ⟨_,rfl,p,_,dx,_,_,rfl,.inl hp,cl,T.c_CircuitText.n,tfl_at _ _,_,rfl,p,_,dx,_,_,rfl,.inl hp,cl,T.c_CircuitText.n,tfl_row _ _,r,_,rfl,.inl (SqL.of hrow),_,_,rfl,rfl,_,rfl,?_⟩
  rw [bV_length]
  refine iteB (fun c=>?_) fun c=>?_
  ·rw [dT] at c
   refine ⟨_,rfl,p,_,dx,_,_,rfl,.inl hp,cl,T.c_CircuitText.n,tfl_at _ _,T.ex_GoesWrong,(by show 1<=100;decide),fun x tt hx=>⟨x,tt,_,rfl,upd_same,fun d hd=>⟨rfl,x,d,_,tt,rfl,?_,rfl,?_⟩⟩⟩
   ·rw [upd_ne (upd_none hd).2.symm,upd_same]
   ·exact raised (k2 (by omega)) Keep.refl hx hx d hd
  ·rw [dF] at c
   exact k1 (by omega)
def lessB (w:Nat):Nat->Bool:=fun x=>decide (x < w)
theorem lessB_int {w:Nat} (h:1<=w) (x:Nat):lessB w x=decide ((0:Int)<=(x:Int)/\(x:Int)<=(w:Int) - 1):=by
 unfold lessB
 by_cases h1:x < w
 ·rw [decide_eq_true h1,decide_eq_true (by omega)]
 ·rw [decide_eq_false h1,decide_eq_false (by omega)]
theorem f15_int (x:Nat):decide (x<=15)=decide ((0:Int)<=(x:Int)/\(x:Int)<=15):=by
 by_cases h1:x<=15
 ·rw [decide_eq_true h1,decide_eq_true (by omega)]
 ·rw [decide_eq_false h1,decide_eq_false (by omega)]
def gateAt (s:Bytes) (w i:Nat):Except Nat (Hush.Gate×Nat):=do
 let f <-Hush.numOk s 1 i (fun (x:Nat)=>decide (x<=15))
 let a <-Hush.numOk s 2 f.2 (fun (x:Nat)=>decide (x < w))
 let b <-Hush.numOk s 2 a.2 (fun (x:Nat)=>decide (x < w))
 return (⟨f.1,a.1,b.1⟩,b.2)
theorem gatesAt_succ (s:Bytes) (n w i:Nat):Hush.gatesAt s (n+1) w i=(do
  let g <-gateAt s w i
  let r <-Hush.gatesAt s n (w+1) g.2
  return (g.1::r.1,r.2)):=by
 unfold gateAt
 rw [Hush.gatesAt]
 simp only [bind,Except.bind,pure,Except.pure]
 cases Hush.numOk s 1 i (fun (x:Nat)=>decide (x<=15)) with
 |error e=>rfl
 |ok f=>
  dsimp only
  cases Hush.numOk s 2 f.2 (fun (x:Nat)=>decide (x < w)) with
  |error e=>rfl
  |ok a=>
   dsimp only
   cases Hush.numOk s 2 a.2 (fun (x:Nat)=>decide (x < w)) with
   |error e=>rfl
   |ok b=>rfl
def spRG (A:Ad):Sp:=fun vs H Q E=>∃(p r:Addr) (k wi:Nat) (s:Bytes),vs=[.ref p,.int (wi:Int)]/\TextAt A H p r k s/\k<=s.length/\1<=wi/\
 (∀g k',gateAt s wi k=.ok (g,k')->∀H' q,Keep [p] H H'->TextAt A H' p r k' s->k'<=s.length->H q=none->H' q=some (.tup (gV g))->Q (.ref q) H')/\∀n,gateAt s wi k=.error n->Wrong A [p] H n E
theorem sc_read_gate:FnScope ["text","wire","f","a","b"] ["text","wire"] (defScope s_read_gate):=scB
theorem Wrong.keep {F:List Addr} {H H1:Hp} {n:Nat} {E:XK} (hw:Wrong A F H n E) (k:Keep F H H1):Wrong A F H1 n E:=fun H' dx k' e=>hw H' dx (k.trans k') e
theorem ok_read_gate (T:Txt K mg A):FnOk P w K mg base (CX1 P w) 4 A.f_read_gate A.d_read_gate ["text","wire"] (spRG A):=by
 refine T.read_gate.fn.okX sc_read_gate (fun vs H Q E h=>?_) (fun _ _ _ _ H _ Q E hr h=>?_)
 ·obtain ⟨p,r,k,wi,s,rfl,_⟩:=h
  rfl
 ·obtain ⟨p,r,i,wi,s,rfl,hX,hi',hw1,k1,k2⟩:=h
  refine ⟨_,(pss_cons (ps_asg (pe_methR (pv 0) T.c_CircuitText.cl T.m_CircuitText_take (ok_CircuitText_take T) (rm hr) T.CircuitText_take.bi .nil pass1 (pa_cons pe_int (pa_cons pe_int (pa_cons (pe_gint rfl T.i_MOST_FUNCTION) pa_nil)))) (pgN (i:=2) sc_read_gate.nd rfl (Or.inl rfl)))
   (pss_cons (ps_asg (pe_methR (pv 0) T.c_CircuitText.cl T.m_CircuitText_take (ok_CircuitText_take T) (rm hr) T.CircuitText_take.bi .nil pass1 (pa_cons pe_int (pa_cons pe_int (pa_cons (pe_op op_sub (pv 1) pe_int) pa_nil)))) (pgN (i:=3) sc_read_gate.nd rfl (Or.inl rfl)))
   (pss_cons (ps_asg (pe_methR (pv 0) T.c_CircuitText.cl T.m_CircuitText_take (ok_CircuitText_take T) (rm hr) T.CircuitText_take.bi .nil pass1 (pa_cons pe_int (pa_cons pe_int (pa_cons (pe_op op_sub (pv 1) pe_int) pa_nil)))) (pgN (i:=4) sc_read_gate.nd rfl (Or.inl rfl)))
   (pss_one (ps_ret (pe_tup (pa_cons (pv 2) (pa_cons (pv 3) (pa_cons (pv 4) pa_nil))))))))),?_⟩
  obtain ⟨dx,hp⟩:=hX.ex
  unfold gateAt at k1 k2
  simp only [bind,Except.bind,pure,Except.pure] at k1 k2
  refine ⟨_,rfl,p,dx,_,rfl,.inl hp,tfl_no (by decide+kernel),p,r,i,1,_,_,s,_,rfl,hX,hi',f15_int,fun f i1 e1 H1 kp1 hX1 hi1=>?_,fun n e=>?_⟩
  rotate_left
  ·refine k2 n ?_
   rw [e]
  rw [e1] at k1 k2
  dsimp only at k1 k2
  refine fun σ' es=>?_
  obtain rfl:σ'=[some (.ref p),some (.int (wi:Int)),some (.int (f:Int)),none,none]:=es
  obtain ⟨dx1,hp1⟩:=hX1.ex
  refine ⟨_,rfl,p,dx1,_,rfl,.inl hp1,tfl_no (by decide+kernel),_,rfl,_,_,rfl,rfl,p,r,i1,2,_,_,s,_,rfl,hX1,hi1,lessB_int hw1,fun a i2 e2 H2 kp2 hX2 hi2=>?_,fun n e=>?_⟩
  rotate_left
  ·refine (k2 n ?_).keep kp1
   unfold lessB at e
   rw [e]
  unfold lessB at e2
  rw [e2] at k1 k2
  dsimp only at k1 k2
  refine fun σ' es=>?_
  obtain rfl:σ'=[some (.ref p),some (.int (wi:Int)),some (.int (f:Int)),some (.int (a:Int)),none]:=es
  obtain ⟨dx2,hp2⟩:=hX2.ex
  refine ⟨_,rfl,p,dx2,_,rfl,.inl hp2,tfl_no (by decide+kernel),_,rfl,_,_,rfl,rfl,p,r,i2,2,_,_,s,_,rfl,hX2,hi2,lessB_int hw1,fun b i3 e3 H3 kp3 hX3 hi3=>?_,fun n e=>?_⟩
  rotate_left
  ·refine (k2 n ?_).keep (kp1.trans kp2)
   unfold lessB at e
   rw [e]
  unfold lessB at e3
  rw [e3] at k1 k2
  dsimp only at k1 k2
  refine fun σ' es=>?_
  obtain rfl:σ'=[some (.ref p),some (.int (wi:Int)),some (.int (f:Int)),some (.int (a:Int)),some (.int (b:Int))]:=es
  refine ⟨_,rfl,_,rfl,_,rfl,(by show 3<=sizeLine;decide),fun q hq=>?_⟩
  have s4:Same H3 (upd H3 q (.tup [.int (f:Int),.int (a:Int),.int (b:Int)])):=Same.new hq
  have kk:=(kp1.trans kp2).trans kp3
  have hqp:q≠p:=fun z=>by
   obtain ⟨d3,h3⟩:=hX3.ex
   rw [z,h3] at hq
   cases hq
  obtain ⟨d3,h3⟩:=hX3.ex
  refine k1 ⟨f,a,b⟩ i3 rfl _ q (kk.trans s4.keep) ⟨⟨d3,s4 _ _ h3⟩,s4 _ _ hX3.row⟩ hi3 (kk.some (by simp;exact hqp) hq) upd_same
theorem hxeF {P:Program} {w:World} {K:W.Frag} {mg:Str->Option Value} {base:Heap} {N:List Str} {qual:Str} {scope:Scope} {f:Addr} {cd:Value} {A:Around} {outer:List Env} {s:Shared} {H:Hp} {E:XK} (e:Value) (s':Shared) (h:LFly (cxF P w K mg base N qual scope f cd A outer s H E) E e s'):
  (cxF P w K mg base N qual scope f cd A outer s H E).xe e s':=⟨h.1.unwish,h.2⟩
def rdG (s:Bytes) (a b g o i:Nat):Except Nat Hush.Circuit:=(Hush.gatesAt s g (a+b) i).bind fun l=>(Hush.outsAt s (a+b+g) o l.2).bind fun r=>if r.2=s.length then .ok ⟨a,b,l.1,r.1⟩ else .error r.2
def rdN (s:Bytes) (k:Nat):Except Nat Hush.Circuit:=(Hush.numOk s 2 k (fun (x:Nat)=>decide (x<=16))).bind fun a=>(Hush.numOk s 2 a.2 (fun (x:Nat)=>decide (x<=16)&&decide (1<=a.1+x))).bind fun b=>
 (Hush.numOk s 2 b.2 (fun (x:Nat)=>decide (x<=32))).bind fun g=>(Hush.numOk s 2 g.2 (fun (x:Nat)=>decide (1<=x)&&decide (x<=16))).bind fun o=>rdG s a.1 b.1 g.1 o.1 o.2
def rdS (s:Bytes):List Nat->Nat->Except Nat Hush.Circuit
 |[],k=>rdN s k
 |x::xs,k=>(Hush.numOk s 1 k (fun (y:Nat)=>y == x)).bind fun m=>rdS s xs m.2
theorem read_eq (s:Bytes):Hush.read s=rdS s [72,87,49,0] 0:=rfl
theorem numOk_good {s:Bytes} {w i:Nat} {good:Nat->Bool} {x k:Nat} (h:Hush.numOk s w i good=.ok (x,k)):good x=true:=by
 unfold Hush.numOk at h
 simp only [bind,Except.bind] at h
 cases hn:Hush.num s w i with
 |error e=>rw [hn] at h;cases h
 |ok v=>
  rw [hn] at h
  dsimp only at h
  by_cases hg:good v.1=true
  ·rw [if_pos hg] at h
   cases h
   exact hg
  ·rw [if_neg hg] at h
   cases h
theorem gateAt_ok {s:Bytes} {w i k:Nat} {g:Hush.Gate} (h:gateAt s w i=.ok (g,k)):g.f < 16/\g.a < w/\g.b < w:=by
 unfold gateAt at h
 simp only [bind,Except.bind,pure,Except.pure] at h
 cases h1:Hush.numOk s 1 i (fun (x:Nat)=>decide (x<=15)) with
 |error e=>rw [h1] at h;cases h
 |ok f=>
  rw [h1] at h
  dsimp only at h
  cases h2:Hush.numOk s 2 f.2 (fun (x:Nat)=>decide (x < w)) with
  |error e=>rw [h2] at h;cases h
  |ok a=>
   rw [h2] at h
   dsimp only at h
   cases h3:Hush.numOk s 2 a.2 (fun (x:Nat)=>decide (x < w)) with
   |error e=>rw [h3] at h;cases h
   |ok b=>
    rw [h3] at h
    cases h
    have g1:=of_decide_eq_true (numOk_good (x:=f.1) (k:=f.2) h1)
    have g2:=of_decide_eq_true (numOk_good (x:=a.1) (k:=a.2) h2)
    have g3:=of_decide_eq_true (numOk_good (x:=b.1) (k:=b.2) h3)
    exact ⟨by show f.1 < 16;omega,g2,g3⟩
theorem gatesAt_next (s:Bytes) (n w i:Nat):Hush.gatesAt s (n+1) w i=(gateAt s w i).bind fun g=>(Hush.gatesAt s n (w+1) g.2).bind fun r=>.ok (g.1::r.1,r.2):=gatesAt_succ s n w i
theorem outsAt_next (s:Bytes) (w n i:Nat):Hush.outsAt s w (n+1) i=(Hush.numOk s 2 i (lessB w)).bind fun a=>(Hush.outsAt s w n a.2).bind fun r=>.ok (a.1::r.1,r.2):=rfl
def spRC (A:Ad):Sp:=fun vs H Q E=>∃(r:Addr) (s:Bytes),vs=[.ref r]/\H r=some (.lst (bV s))/\s.length<=256/\
 (∀c,Hush.read s=.ok c->∀H' q,Same H H'->H q=none->CircAt A.c_Circuit H' q c->Q (.ref q) H')/\∀n,Hush.read s=.error n->Wrong A [] H n E
theorem sc_read_circuit:FnScope ["row","text","sign","maker_bits","taker_bits","gate_count","output_count","wires","gates","k","outputs"] ["row"] (defScope s_read_circuit):=scB
theorem sign_at {i:Nat} {u:V} (h:v_SIGN[i]?=some u):i < 4/\∃x:Nat,([72,87,49,0]:List Nat)[i]?=some x/\u=.int (x:Int):=by
 have hi:=(List.getElem?_eq_some_iff.mp h).1
 have hi:i < 4:=hi
 match i,hi with
 |0,_=>exact ⟨by decide,72,rfl,by cases h;rfl⟩
 |1,_=>exact ⟨by decide,87,rfl,by cases h;rfl⟩
 |2,_=>exact ⟨by decide,49,rfl,by cases h;rfl⟩
 |3,_=>exact ⟨by decide,0,rfl,by cases h;rfl⟩
theorem eq_int (x y:Nat):(y == x)=decide (((x:Nat):Int)<=(y:Int)/\(y:Int)<=(x:Int)):=by
 by_cases h:y=x
 ·rw [beq_iff_eq.mpr h,decide_eq_true (by omega)]
 ·rw [beq_eq_false_iff_ne.mpr h,decide_eq_false (by omega)]
theorem le_int (m x:Nat):decide (x<=m)=decide ((0:Int)<=(x:Int)/\(x:Int)<=(m:Int)):=by
 by_cases h:x<=m
 ·rw [decide_eq_true h,decide_eq_true (by omega)]
 ·rw [decide_eq_false h,decide_eq_false (by omega)]
theorem ite_tC {c:Prop} [Decidable c] {u v:V} {σ:L2.St} {H:Hp} {Q:VK} (h:Q (if c then u else v) H):if c then tC u σ H Q else tC v σ H Q:=by
 by_cases hc:c
 ·rw [if_pos hc] at h ⊢
  exact h
 ·rw [if_neg hc] at h ⊢
  exact h
theorem lo_int (a x:Nat):(decide (x<=16)&&decide (1<=a+x))=decide ((if a=0 then 1 else 0:Int)<=(x:Int)/\(x:Int)<=16):=by
 by_cases ha:a=0
 ·rw [if_pos ha]
  by_cases h:1<=x/\x<=16
  ·rw [decide_eq_true h.2,decide_eq_true (show 1<=a+x by omega),decide_eq_true (by omega)]
   rfl
  ·rw [decide_eq_false (show ¬((1:Int)<=(x:Int)/\(x:Int)<=16) by omega)]
   by_cases h2:x<=16
   ·rw [decide_eq_false (show ¬1<=a+x by omega),Bool.and_false]
   ·rw [decide_eq_false h2]
    rfl
 ·rw [if_neg ha,decide_eq_true (show 1<=a+x by omega),Bool.and_true]
  exact le_int 16 x
theorem o_int (x:Nat):(decide (1<=x)&&decide (x<=16))=decide ((1:Int)<=(x:Int)/\(x:Int)<=16):=by
 by_cases h:1<=x/\x<=16
 ·rw [decide_eq_true h.1,decide_eq_true h.2,decide_eq_true (by omega)]
  rfl
 ·rw [decide_eq_false (show ¬((1:Int)<=(x:Int)/\(x:Int)<=16) by omega)]
  by_cases h2:1<=x
  ·rw [decide_eq_false (show ¬x<=16 by omega),Bool.and_false]
  ·rw [decide_eq_false h2]
   rfl
theorem ok_read_circuit (T:Txt K mg A):FnOk P w K mg base (CX1 P w) 5 A.f_read_circuit A.d_read_circuit ["row"] (spRC A):=by
 refine T.read_circuit.fn.okF sc_read_circuit (fun vs H Q E h=>?_) (fun _ _ _ _ H _ Q E hr h=>?_)
 ·obtain ⟨r,s,rfl,_⟩:=h
  rfl
 ·obtain ⟨r,s,rfl,hrow,hmax,k1,k2⟩:=h
  refine ⟨_,(pss_cons (ps_asg (pe_make T.c_CircuitText.mk_ (ok_CircuitText_init T) (rm hr) rfl T.c_CircuitText.mg_ T.CircuitText_init.bi .nil pass0 (pa_cons (pv 0) pa_nil)) (pgN (i:=1) sc_read_circuit.nd rfl (Or.inr rfl)))
   (pss_cons (ps_for ownsF rfl (pi_tup (pe_gref rfl T.t_SIGN.mg_)) (pg_name (i:=2) sc_read_circuit.nd rfl (Or.inl rfl)) (pss_one (ps_expr (pe_methR (pv 1) T.c_CircuitText.cl T.m_CircuitText_take (ok_CircuitText_take T) (rm hr) T.CircuitText_take.bi .nil passF (pa_cons pe_int (pa_cons (pv 2) (pa_cons (pv 2) pa_nil)))))))
   (pss_cons (ps_asg (pe_methR (pv 1) T.c_CircuitText.cl T.m_CircuitText_take (ok_CircuitText_take T) (rm hr) T.CircuitText_take.bi .nil passF (pa_cons pe_int (pa_cons pe_int (pa_cons (pe_gint rfl T.i_MOST_BITS) pa_nil)))) (pgN (i:=3) sc_read_circuit.nd rfl (Or.inl rfl)))
   (pss_cons (ps_asg (pe_methR (pv 1) T.c_CircuitText.cl T.m_CircuitText_take (ok_CircuitText_take T) (rm hr) T.CircuitText_take.bi .nil passF (pa_cons pe_int (pa_cons (pe_ifExp (pt_cmpR op_eq (pv 3) pe_int (nomark _)) pe_int pe_int) (pa_cons (pe_gint rfl T.i_MOST_BITS) pa_nil)))) (pgN (i:=4) sc_read_circuit.nd rfl (Or.inl rfl)))
   (pss_cons (ps_asg (pe_methR (pv 1) T.c_CircuitText.cl T.m_CircuitText_take (ok_CircuitText_take T) (rm hr) T.CircuitText_take.bi .nil passF (pa_cons pe_int (pa_cons pe_int (pa_cons (pe_gint rfl T.i_MOST_GATES) pa_nil)))) (pgN (i:=5) sc_read_circuit.nd rfl (Or.inl rfl)))
   (pss_cons (ps_asg (pe_methR (pv 1) T.c_CircuitText.cl T.m_CircuitText_take (ok_CircuitText_take T) (rm hr) T.CircuitText_take.bi .nil passF (pa_cons pe_int (pa_cons pe_int (pa_cons (pe_gint rfl T.i_MOST_OUTPUTS) pa_nil)))) (pgN (i:=6) sc_read_circuit.nd rfl (Or.inl rfl)))
   (pss_cons (ps_asg (pe_op op_add (pv 3) (pv 4)) (pgN (i:=7) sc_read_circuit.nd rfl (Or.inr rfl)))
   (pss_cons (ps_asg (pe_lst pa_nil) (pgN (i:=8) sc_read_circuit.nd rfl (Or.inl rfl)))
   (pss_cons (ps_for ownsF rfl (pi_range1 rfl T.n_range (pa_cons (pv 5) pa_nil)) (pg_name (i:=9) sc_read_circuit.nd rfl (Or.inl rfl)) (pss_one (ps_expr (pe_bm PySem.F.plainAttrs_list PySem.F.slot_list_append PySem.F.type_list_append mt_append (pv 8) (pa_cons (pe_call (ok_read_gate T) (rm hr) rfl T.read_gate.mg_ T.read_gate.fn.kp T.read_gate.bi .nil passF (pa_cons (pv 1) (pa_cons (pe_op op_add (pv 7) (pv 9)) pa_nil))) pa_nil)))))
   (pss_cons (ps_asg (pe_op op_add (pv 7) (pv 5)) (pgN (i:=7) sc_read_circuit.nd rfl (Or.inr rfl)))
   (pss_cons (ps_setLcF (L:=_) (i:=10) (own:=[("k",9)]) rfl rfl rfl hxeF rfl sc_read_circuit.nd rfl rfl (sw_true rfl rfl rfl rfl) (pi_range1 rfl T.n_range (pa_cons (pv 6) pa_nil)) (blkOk_by rfl) (fun _ _ _ _ _=>(pg_name (i:=9) sc_read_circuit.nd rfl (Or.inl rfl))) (fun _ _ _ _ _=>pts_nil) (fun _ _ _ _ _=>(pe_methR (pv 1) T.c_CircuitText.cl T.m_CircuitText_take (ok_CircuitText_take T) (rm hr) T.CircuitText_take.bi .nil passW (pa_cons pe_int (pa_cons pe_int (pa_cons (pe_op op_sub (pv 7) pe_int) pa_nil))))))
   (pss_cons (ps_expr (pe_meth0R (pv 1) T.c_CircuitText.cl T.m_CircuitText_finish (ok_CircuitText_finish T) (rm hr) T.CircuitText_finish.bi .nil passF))
   (pss_one (ps_ret (pe_frz (pe_make T.c_Circuit.mk_ (ok_Circuit_init T) (rm hr) rfl T.c_Circuit.mg_ T.Circuit_init.bi .nil pass0 (pa_cons (pv 3) (pa_cons (pv 4) (pa_cons (pe_frz (pv 8)) (pa_cons (pe_frz (pv 10)) pa_nil)))))))))))))))))))),?_⟩
  rw [read_eq] at k1 k2
  have cl:=T.c_CircuitText.cl
  refine ⟨_,rfl,fun p dx np nd ne=>⟨p,dx,r,rfl,upd_same,rfl,?_⟩⟩
  rw [upd_upd]
  have s1:Same H (upd (upd H dx (.own p)) p (.ins A.c_CircuitText dx (tfl r 0))):=Same.young (Same.new nd) np
  have hX1:TextAt A (upd (upd H dx (.own p)) p (.ins A.c_CircuitText dx (tfl r 0))) p r 0 s:=⟨⟨dx,upd_same⟩,s1 _ _ hrow⟩
  generalize upd (upd H dx (.own p)) p (.ins A.c_CircuitText dx (tfl r 0))=H1 at s1 hX1
  have stp:∀{Ha Hb:Hp},Same H Ha->Keep [p] Ha Hb->Same H Hb:=fun sa kb=>((sa.keep (F:=[])).young2 kb fun b hb=>.inr (by rw [List.mem_singleton.mp hb];exact np)).same
  have wr:∀n,rdS s [72,87,49,0] 0=.error n->∀{Ha:Hp},Same H Ha->Wrong A [p] Ha n E:=fun n e Ha sa H' d kk hd=>k2 n e H' d (stp sa kk).keep hd
  refine fun σ' es=>?_
  obtain rfl:σ'=[some (.ref r),some (.ref p),none,none,none,none,none,none,none,none,none]:=es
  refine ⟨_,rfl,⟨_,T.t_SIGN.sq _⟩,for_tup (K:=K) (xs:=v_SIGN) (fun i σ H'=>∃v k,σ=[some (.ref r),some (.ref p),v,none,none,none,none,none,none,none,none]/\Same H H'/\TextAt A H' p r k s/\k<=s.length/\rdS s [72,87,49,0] 0=rdS s ([72,87,49,0].drop i) k)
   ⟨none,0,rfl,s1,hX1,Nat.zero_le _,rfl⟩ (fun i σ H' _ _=>T.t_SIGN.sq H') ?_ ?_⟩
  ·rintro i u σ H' hu ⟨v,k,rfl,sa,hX,hk,hR⟩
   obtain ⟨hi,x,hx,rfl⟩:=sign_at hu
   obtain ⟨hlx,hx'⟩:=List.getElem?_eq_some_iff.mp hx
   rw [List.drop_eq_getElem_cons hlx,hx'] at hR
   obtain ⟨d1,hp1⟩:=hX.ex
   refine ⟨_,rfl,p,d1,_,rfl,.inl hp1,tfl_no (by decide+kernel),_,rfl,_,rfl,p,r,k,1,_,_,s,_,rfl,hX,hk,eq_int x,fun y k' e H2 kp hX2 hk2=>?_,fun n e=>?_⟩
   ·refine ⟨_,k',rfl,stp sa kp,hX2,hk2,?_⟩
    rw [hR]
    show (Hush.numOk s 1 k (fun (y:Nat)=>y == x)).bind _=_
    rw [e]
    rfl
   ·refine wr n ?_ sa
    rw [hR]
    show (Hush.numOk s 1 k (fun (y:Nat)=>y == x)).bind _=_
    rw [e]
    rfl
  rintro σ H2 ⟨v,k0,rfl,sa,hX2,hk0,hR⟩
  have hR:rdS s [72,87,49,0] 0=rdN s k0:=hR
  unfold rdN at hR
  obtain ⟨d2,hp2⟩:=hX2.ex
  refine ⟨_,rfl,p,d2,_,rfl,.inl hp2,tfl_no (by decide+kernel),p,r,k0,2,_,_,s,_,rfl,hX2,hk0,le_int 16,fun a ka ea H3 kp3 hX3 hka=>?_,fun n e=>wr n (by rw [hR,e];rfl) sa⟩
  rw [ea] at hR
  simp only [Except.bind] at hR
  have sb:=stp sa kp3
  have ha16:=of_decide_eq_true (numOk_good ea)
  refine fun σ' es=>?_
  obtain rfl:σ'=[some (.ref r),some (.ref p),v,some (.int (a:Int)),none,none,none,none,none,none,none]:=es
  obtain ⟨d3,hp3⟩:=hX3.ex
  refine ⟨_,rfl,p,d3,_,rfl,.inl hp3,tfl_no (by decide+kernel),_,rfl,rfl,_,rfl,ite_tC ?_⟩
  have hlo:(if decide (V.int (a:Int)=V.int 0)=true then V.int 1 else V.int 0)=V.int (if a=0 then 1 else 0):=by
   by_cases h0:a=0
   ·rw [if_pos h0,if_pos (decide_eq_true (by rw [h0];rfl))]
   ·rw [if_neg h0,if_neg]
    rw [dT]
    intro z
    injection z with z
    exact h0 (by omega)
  rw [hlo]
  refine ⟨p,r,ka,2,_,_,s,_,rfl,hX3,hka,lo_int a,fun b kb eb H4 kp4 hX4 hkb=>?_,fun n e=>wr n (by rw [hR,e]) sb⟩
  rw [eb] at hR
  dsimp only at hR
  have sc:=stp sb kp4
  have hb:=numOk_good eb
  rw [Bool.and_eq_true,decide_eq_true_eq,decide_eq_true_eq] at hb
  refine fun σ' es=>?_
  obtain rfl:σ'=[some (.ref r),some (.ref p),v,some (.int (a:Int)),some (.int (b:Int)),none,none,none,none,none,none]:=es
  obtain ⟨d4,hp4⟩:=hX4.ex
  refine ⟨_,rfl,p,d4,_,rfl,.inl hp4,tfl_no (by decide+kernel),p,r,kb,2,_,_,s,_,rfl,hX4,hkb,le_int 32,fun g kg eg H5 kp5 hX5 hkg=>?_,fun n e=>wr n (by rw [hR,e]) sc⟩
  rw [eg] at hR
  dsimp only at hR
  have sd:=stp sc kp5
  have hg:=of_decide_eq_true (numOk_good eg)
  refine fun σ' es=>?_
  obtain rfl:σ'=[some (.ref r),some (.ref p),v,some (.int (a:Int)),some (.int (b:Int)),some (.int (g:Int)),none,none,none,none,none]:=es
  obtain ⟨d5,hp5⟩:=hX5.ex
  refine ⟨_,rfl,p,d5,_,rfl,.inl hp5,tfl_no (by decide+kernel),p,r,kg,2,_,_,s,_,rfl,hX5,hkg,o_int,fun o ko eo H6 kp6 hX6 hko=>?_,fun n e=>wr n (by rw [hR,e]) sd⟩
  rw [eo] at hR
  dsimp only at hR
  have sE:=stp sd kp6
  have ho:=numOk_good eo
  rw [Bool.and_eq_true,decide_eq_true_eq,decide_eq_true_eq] at ho
  refine fun σ' es=>?_
  obtain rfl:σ'=[some (.ref r),some (.ref p),v,some (.int (a:Int)),some (.int (b:Int)),some (.int (g:Int)),some (.int (o:Int)),none,none,none,none]:=es
  refine ⟨_,rfl,_,rfl,_,_,rfl,rfl,fun σ' es=>?_⟩
  have e1:(a:Int)+(b:Int)=((a+b:Nat):Int):=by omega
  dsimp only at es
  rw [e1] at es
  obtain rfl:σ'=[some (.ref r),some (.ref p),v,some (.int (a:Int)),some (.int (b:Int)),some (.int (g:Int)),some (.int (o:Int)),some (.int ((a+b:Nat):Int)),none,none,none]:=es
  refine ⟨Nat.zero_le _,fun lg hlg=>fun σ' es=>?_⟩
  obtain rfl:σ'=[some (.ref r),some (.ref p),v,some (.int (a:Int)),some (.int (b:Int)),some (.int (g:Int)),some (.int (o:Int)),some (.int ((a+b:Nat):Int)),some (.ref lg),none,none]:=es
  have s7:Same H6 (upd H6 lg (.lst [])):=Same.new hlg
  obtain ⟨d6,hp6⟩:=hX6.ex
  have hlgp:lg≠p:=fun z=>by rw [z,hp6] at hlg;cases hlg
  have hlg0:H lg=none:=sE.free hlg
  have hlgr:lg≠r:=fun z=>by rw [z,hrow] at hlg0;cases hlg0
  have hX7:TextAt A (upd H6 lg (.lst [])) p r ko s:=⟨⟨d6,s7 _ _ hp6⟩,s7 _ _ hX6.row⟩
  unfold rdG at hR
  refine ⟨_,rfl,g,rfl,by omega,by omega,?_⟩
  refine for_range (lo:=0) (n:=g) (fun j σ H'=>∃(v9:Option V) (k:Nat) (gs:List Addr) (gl:List Hush.Gate),σ=[some (.ref r),some (.ref p),v,some (.int (a:Int)),some (.int (b:Int)),some (.int (g:Int)),some (.int (o:Int)),some (.int ((a+b:Nat):Int)),some (.ref lg),v9,none]/\Same H H'/\TextAt A H' p r k s/\k<=s.length/\
    H' lg=some (.lst (gs.map V.ref))/\gs.length=j/\gl.length=j/\(∀(i:Nat) (q:Addr) (x:Hush.Gate),gs[i]?=some q->gl[i]?=some x->H' q=some (.tup (gV x)))/\(∀(i:Nat) (x:Hush.Gate),gl[i]?=some x->x.f < 16/\x.a < a+b+i/\x.b < a+b+i)/\
    Hush.gatesAt s g (a+b) ko=(Hush.gatesAt s (g - j) (a+b+j) k).bind fun z=>.ok (gl++z.1,z.2))
   ⟨none,ko,[],[],rfl,sE.trans s7,hX7,hko,upd_same,rfl,rfl,fun i q x e=>by simp at e,fun i x e=>by simp at e,?_⟩ ?_ ?_
  ·show _=(Hush.gatesAt s g (a+b) ko).bind _
   cases Hush.gatesAt s g (a+b) ko with
   |error e=>rfl
   |ok z=>rfl
  ·rintro j σ H' hj ⟨v9,k,gs,gl,rfl,sF,hX,hk,hl,hgs,hgl,htup,hwf,hG⟩
   obtain ⟨m,hm⟩:∃m,g - j=m+1:=⟨g - j - 1,by omega⟩
   rw [hm,gatesAt_next] at hG
   have e2:((a+b:Nat):Int)+(0+(j:Int))=((a+b+j:Nat):Int):=by omega
   refine ⟨_,rfl,.inl ⟨rfl,_,SqL.of hl⟩,_,rfl,_,rfl,_,rfl,_,_,rfl,rfl,?_⟩
   dsimp only
   rw [e2]
   refine ⟨p,r,k,a+b+j,s,rfl,hX,hk,by omega,fun x k' ex H8 q kp8 hX8 hk8 hq0 hq8=>?_,fun n e=>wr n (by rw [hR,hG,e];rfl) sF⟩
   have hl8:=kp8.at_ hl (by simp;exact hlgp)
   refine ⟨lg,_,_,rfl,rfl,hl8,sz (m:=32) (by rw [List.length_map];omega),?_⟩
   have k9:Keep [lg] H8 (upd H8 lg (.lst (gs.map V.ref++[V.ref q]))):=Keep.set hl8 (fun z=>z) (by simp)
   obtain ⟨d8,hp8⟩:=hX8.ex
   rw [ex] at hG
   have s9:Same H (upd H8 lg (.lst (gs.map V.ref++[V.ref q]))):=(((stp sF kp8).keep (F:=[])).young2 k9 fun b hb=>.inr (by rw [List.mem_singleton.mp hb];exact hlg0)).same
   refine ⟨_,k',gs++[q],gl++[x],rfl,s9,⟨⟨d8,k9.at_ hp8 (by simp;exact hlgp.symm)⟩,k9.at_ hX8.row (by simp;exact hlgr.symm)⟩,hk8,by rw [upd_same,List.map_append];rfl,by rw [List.length_append,hgs];rfl,by rw [List.length_append,hgl];rfl,fun i q' x' e3 e4=>?_,fun i x' e4=>?_,?_⟩
   ·refine k9.tup ?_
    by_cases hi:i < gs.length
    ·rw [List.getElem?_append_left hi] at e3
     rw [List.getElem?_append_left (by omega)] at e4
     exact kp8.tup (htup i q' x' e3 e4)
    ·rw [List.getElem?_append_right (by omega)] at e3 e4
     have hz:i - gs.length=0:=by
      have:=(List.getElem?_eq_some_iff.mp e3).1
      simp at this
      omega
     rw [hz] at e3
     rw [show i - gl.length=0 by omega] at e4
     cases e3
     cases e4
     exact hq8
   ·by_cases hi:i < gl.length
    ·rw [List.getElem?_append_left hi] at e4
     exact hwf i x' e4
    ·rw [List.getElem?_append_right (by omega)] at e4
     have hz:i - gl.length=0:=by
      have:=(List.getElem?_eq_some_iff.mp e4).1
      simp at this
      omega
     rw [hz] at e4
     cases e4
     have hij:i=j:=by omega
     rw [hij]
     exact gateAt_ok ex
   ·rw [hG,show g - (j+1)=m by omega,show a+b+(j+1)=a+b+j+1 by omega]
    simp only [Except.bind]
    cases Hush.gatesAt s m (a+b+j+1) k' with
    |error e=>rfl
    |ok z=>
     dsimp only
     rw [List.append_assoc]
     rfl
  rintro σ H8 ⟨v9,k,gs,gl,rfl,sF,hX8,hk,hl,hgs,hgl,htup,hwf,hG⟩
  have hG:Hush.gatesAt s g (a+b) ko=.ok (gl,k):=by
   rw [hG,Nat.sub_self]
   show Except.ok (gl++[],k)=_
   rw [List.append_nil]
  rw [hG] at hR
  simp only [Except.bind] at hR
  refine ⟨_,rfl,_,rfl,_,_,rfl,rfl,fun σ' es=>?_⟩
  have e3:((a+b:Nat):Int)+(g:Int)=((a+b+g:Nat):Int):=by omega
  dsimp only at es
  rw [e3] at es
  obtain rfl:σ'=[some (.ref r),some (.ref p),v,some (.int (a:Int)),some (.int (b:Int)),some (.int (g:Int)),some (.int (o:Int)),some (.int ((a+b+g:Nat):Int)),some (.ref lg),v9,none]:=es
  refine ⟨_,rfl,o,rfl,by omega,by omega,fun D hD=>?_⟩
  have hD0:H D=none:=sF.free hD
  have hDlg:D≠lg:=fun z=>by rw [z,hl] at hD;cases hD
  obtain ⟨d8,hp8⟩:=hX8.ex
  have hDp:D≠p:=fun z=>by rw [z,hp8] at hD;cases hD
  have hDr:D≠r:=fun z=>by rw [z,hrow] at hD0;cases hD0
  have s9:Same H8 (upd H8 D (.lst [])):=Same.new hD
  refine lc_range (lo:=0) (n:=o) (fun j H'=>∃(k':Nat) (ol:List Nat),Same H H'/\Keep [p,D] H8 H'/\TextAt A H' p r k' s/\k'<=s.length/\H' D=some (.lst (nV ol))/\ol.length=j/\(∀w∈ol,w < a+b+g)/\
    Hush.outsAt s (a+b+g) o k=(Hush.outsAt s (a+b+g) (o - j) k').bind fun z=>.ok (ol++z.1,z.2))
   ⟨k,[],sF.trans s9,s9.keep,⟨⟨d8,s9 _ _ hp8⟩,s9 _ _ hX8.row⟩,hk,upd_same,rfl,fun w hw=>absurd hw (by simp),?_⟩ ?_ ?_
  ·show _=(Hush.outsAt s (a+b+g) o k).bind _
   cases Hush.outsAt s (a+b+g) o k with
   |error e=>rfl
   |ok z=>rfl
  ·rintro j H' hj ⟨k',ol,sG,kG,hX,hk',hDl,hol,hlt,hO⟩
   obtain ⟨m,hm⟩:∃m,o - j=m+1:=⟨o - j - 1,by omega⟩
   rw [hm,outsAt_next] at hO
   obtain ⟨d9,hp9⟩:=hX.ex
   refine ⟨rfl,_,rfl,p,d9,_,rfl,.inl hp9,tfl_no (by decide+kernel),_,rfl,_,_,rfl,rfl,p,r,k',2,_,_,s,_,rfl,hX,hk',lessB_int (w:=a+b+g) (by omega),fun x k2 ex H9 kp9 hX9 hk9=>?_,fun n e=>wr n (by rw [hR,hO,e];rfl) sG⟩
   have hD9:=kp9.at_ hDl (by simp;exact hDp)
   rw [ex] at hO
   have k10:Keep [D] H9 (upd H9 D (.lst (nV ol++[V.int (x:Int)]))):=Keep.set hD9 (fun z=>z) (by simp)
   obtain ⟨d10,hp10⟩:=hX9.ex
   have s10:Same H (upd H9 D (.lst (nV ol++[V.int (x:Int)]))):=(((stp sG kp9).keep (F:=[])).young2 k10 fun b hb=>.inr (by rw [List.mem_singleton.mp hb];exact hD0)).same
   refine ⟨_,hD9,sz (m:=16) (by unfold nV;rw [List.length_map];omega),k2,ol++[x],s10,(kG.trans (kp9.mono (by simp))).trans (k10.mono (by simp)),⟨⟨d10,k10.at_ hp10 (by simp;exact hDp.symm)⟩,k10.at_ hX9.row (by simp;exact hDr.symm)⟩,hk9,?_,by rw [List.length_append,hol];rfl,fun w hw=>?_,?_⟩
   ·rw [upd_same]
    unfold nV
    rw [List.map_append]
    rfl
   ·rcases List.mem_append.mp hw with h1|h1
    ·exact hlt w h1
    ·rw [List.mem_singleton.mp h1]
     exact of_decide_eq_true (numOk_good ex)
   ·rw [hO,show o - (j+1)=m by omega]
    simp only [Except.bind]
    cases Hush.outsAt s (a+b+g) m k2 with
    |error e=>rfl
    |ok z=>
     dsimp only
     rw [List.append_assoc]
     rfl
  rintro H9 ⟨k',ol,sG,kG,hX9,hk',hDl,hol,hlt,hO⟩
  have hO:Hush.outsAt s (a+b+g) o k=.ok (ol,k'):=by
   rw [hO,Nat.sub_self]
   show Except.ok (ol++[],k')=_
   rw [List.append_nil]
  rw [hO] at hR
  dsimp only at hR
  obtain ⟨d9,hp9⟩:=hX9.ex
  refine ⟨_,rfl,p,d9,_,rfl,.inl hp9,tfl_no (by decide+kernel),p,r,k',s,rfl,hX9,hk',fun he=>?_,fun hne=>wr k' (by rw [hR,if_neg hne]) sG⟩
  rw [if_pos he] at hR
  have hl9:=kG.at_ hl (by simp;exact ⟨hlgp,hDlg.symm⟩)
  refine ⟨_,rfl,_,rfl,_,rfl,lg,_,rfl,hl9,trivial,fun od=>?_⟩
  have hDa:upd H9 lg (.frz od (.lst (gs.map V.ref))) D=some (.lst (nV ol)):=by rw [upd_ne hDlg];exact hDl
  refine ⟨_,rfl,D,_,rfl,hDa,trivial,fun od2=>fun x dx nx nd ned=>?_⟩
  obtain ⟨nx1,nxD⟩:=upd_none nx
  obtain ⟨nx2,nxl⟩:=upd_none nx1
  obtain ⟨nd1,ndD⟩:=upd_none nd
  obtain ⟨nd2,ndl⟩:=upd_none nd1
  have x0:=sG.free nx2
  have d0:=sG.free nd2
  refine ⟨x,dx,lg,D,a,b,rfl,upd_same,rfl,x,_,rfl,upd_same,trivial,fun od3=>?_⟩
  rw [upd_upd,upd_upd]
  refine k1 ⟨a,b,gl,ol⟩ hR _ x ?_ x0 ⟨⟨ha16,hb.1,hb.2,by show gl.length<=32;omega,by show ol.length<=16;omega,fun i y e=>hwf i y e,fun w hw=>?_⟩,dx,lg,D,gs,⟨od3,upd_same⟩,⟨od,?_⟩,by show gs.length=gl.length;omega,fun i q y e1 e2=>?_,⟨od2,?_⟩⟩
  ·exact Same.young (Same.young (Same.young (Same.young sG hlg0) hD0) d0) x0
  ·show w < a+b+gl.length
   rw [hgl]
   exact hlt w hw
  ·rw [upd_ne nxl.symm,upd_ne ndl.symm,upd_ne hDlg.symm,upd_same]
  ·have hq:=kG.tup (htup i q y e1 e2)
   have q1:q≠x:=fun z=>by rw [z,nx2] at hq;cases hq
   have q2:q≠dx:=fun z=>by rw [z,nd2] at hq;cases hq
   have q3:q≠D:=fun z=>by rw [z,hDl] at hq;cases hq
   have q4:q≠lg:=fun z=>by rw [z,hl9] at hq;cases hq
   rw [upd_ne q1,upd_ne q2,upd_ne q3,upd_ne q4]
   exact hq
  ·rw [upd_ne nxD.symm,upd_ne ndD.symm,upd_same]
abbrev SState:=Hushwork.State
def sfs (c m t:V):List (Str×V):=[("circuit",c),("maker",m),("taker",t)]
section
variable (c m t:V)
theorem sfs_c:(sfs c m t).lookup ("circuit":Str)=some c:=rfl
theorem sfs_m:(sfs c m t).lookup ("maker":Str)=some m:=by
 unfold sfs
 rw [List.lookup_cons,show (("maker":Str) == "circuit")=false by decide+kernel]
 rfl
theorem sfs_t:(sfs c m t).lookup ("taker":Str)=some t:=by
 unfold sfs
 rw [List.lookup_cons,show (("taker":Str) == "circuit")=false by decide+kernel]
 dsimp only
 rw [List.lookup_cons,show (("taker":Str) == "maker")=false by decide+kernel]
 rfl
theorem sfs_cput (c':V):putF "circuit" c' (sfs c m t)=sfs c' m t:=by
 unfold sfs
 simp only [putF,if_true]
theorem sfs_mput (m':V):putF "maker" m' (sfs c m t)=sfs c m' t:=by
 unfold sfs
 simp only [putF,show ¬("circuit":Str)="maker" by decide+kernel,if_false,if_true]
theorem sfs_tput (t':V):putF "taker" t' (sfs c m t)=sfs c m t':=by
 unfold sfs
 simp only [putF,show ¬("circuit":Str)="taker" by decide+kernel,show ¬("maker":Str)="taker" by decide+kernel,if_false,if_true]
end
def CirO (A:Ad) (H:Hp) (v:V):Option Hush.Circuit->Prop
 |none=>v=.non
 |some c=>∃ca,v=.ref ca/\CircAt A.c_Circuit H ca c
def MakO (A:Ad) (H:Hp) (v:V) (F:List Addr):Option SMaker->Prop
 |none=>v=.non/\F=[]
 |some m=>∃mp l t,v=.ref mp/\F=[l,t]/\MakerAt A H mp l t m
def TakO (A:Ad) (H:Hp) (v:V) (F G:List Addr):Option STaker->Prop
 |none=>v=.non/\F=[]/\G=[]
 |some x=>∃tp l pc,v=.ref tp/\F=[tp,l]/\G=[pc]/\TakerAt A H tp l pc x
structure StAt (A:Ad) (H:Hp) (p:Addr) (FM FT GT:List Addr) (x:SState):Prop where
 ex:∃dx vc vm vt,H p=some (.ins A.c_State dx (sfs vc vm vt))/\CirO A H vc x.circuit/\MakO A H vm FM x.maker/\TakO A H vt FT GT x.taker
 nd:(p::(FM++(FT++GT))).Nodup
section
variable {A:Ad} {H H':Hp} {p:Addr} {FM FT GT F:List Addr} {x:SState}
theorem CirO.keep {v:V}:∀{o:Option Hush.Circuit},CirO A H v o->Keep F H H'->CirO A H' v o
 |none,h,_=>h
 |some _,⟨ca,e,h⟩,k=>⟨ca,e,h.keep k⟩
theorem MakO.keep {v:V} {FM:List Addr}:∀{o:Option SMaker},MakO A H v FM o->Keep F H H'->(∀b∈FM,b∉F)->MakO A H' v FM o
 |none,h,_,_=>h
 |some _,⟨mp,l,t,e,e2,h⟩,k,n=>⟨mp,l,t,e,e2,h.keep k (n l (by rw [e2];simp)) (n t (by rw [e2];simp))⟩
theorem TakO.keep {v:V} {FT GT:List Addr}:∀{o:Option STaker},TakO A H v FT GT o->Keep F H H'->(∀b∈FT++GT,b∉F)->TakO A H' v FT GT o
 |none,h,_,_=>h
 |some _,⟨tp,l,pc,e,e2,e3,h⟩,k,n=>⟨tp,l,pc,e,e2,e3,h.keep k (n tp (by rw [e2];simp)) (n l (by rw [e2];simp)) (n pc (by rw [e3];simp))⟩
theorem StAt.keep (h:StAt A H p FM FT GT x) (k:Keep F H H') (n:∀b∈p::(FM++(FT++GT)),b∉F):StAt A H' p FM FT GT x:=by
 obtain ⟨dx,vc,vm,vt,e,h1,h2,h3⟩:=h.ex
 exact ⟨⟨dx,vc,vm,vt,k.at_ e (n p (by simp)),h1.keep k,h2.keep k fun b hb=>n b (by simp [hb]),h3.keep k fun b hb=>n b (List.mem_cons_of_mem _ (List.mem_append_right _ hb))⟩,h.nd⟩
theorem StAt.same (h:StAt A H p FM FT GT x) (k:Same H H'):StAt A H' p FM FT GT x:=h.keep (k.keep (F:=[])) (by simp)
end
def EndsS (A:Ad) (H:Hp) (p:Addr) (FM FT GT:List Addr) (Q:VK) (z:SState×Answer):Prop:=∀(H':Hp) (q:Addr) (FM' FT' GT':List Addr),Keep (p::(FM++FT)) H H'->StAt A H' p FM' FT' GT' z.1->(∀b∈FM'++(FT'++GT'),b∈FM++(FT++GT)\/H b=none)->H q=none->H' q=some (.lst (ansV z.2))->Q (.ref q) H'
theorem EndsS.stay {A:Ad} {H:Hp} {p:Addr} {FM FT GT:List Addr} {Q:VK} {x:SState} {a:Answer} (hM:StAt A H p FM FT GT x) (k:EndsS A H p FM FT GT Q (x,a)):Ends1 H Q a:=fun H' q s hq e=>k H' q FM FT GT s.keep (hM.same s) (fun b hb=>.inl hb) hq e
theorem ok_replyH (T:Txt K mg A):FnOkH P w K mg base 1 A.f_reply A.d_reply ["number","row","numbers"] spReply:=by
 refine T.reply.fn.okH sc_reply (fun vs H Q E h=>?_) (fun cdv AA outer s H vs Q E h=>?_)
 ·obtain ⟨n,l1,l2,r,s,rfl,_⟩:=h
  rfl
 ·obtain ⟨n,l1,l2,r,s,rfl,h1,h2,hr1,hs1,k⟩:=h
  refine ⟨_,(pss_one (ps_ret (pe_op op_cat (pe_op op_cat (pe_op op_cat (pe_lst (pa_cons (pv 0) (pa_cons (pe_callB (lenS K) (by rfl) T.n_len PySem.boot_len (pa_cons (pv 1) pa_nil)) pa_nil))) (pv 1)) (pe_lst (pa_cons (pe_callB (lenS K) (by rfl) T.n_len PySem.boot_len (pa_cons (pv 2) pa_nil)) pa_nil))) (pv 2)))),?_⟩
  refine ⟨_,rfl,_,rfl,l1,_,rfl,.inl (SqL.of h1),by show 2<=sizeLine;decide,fun p1 hp1=>?_⟩
  have t1:Same H (upd H p1 (.lst [.int n,.int (r.length:Nat)])):=Same.new hp1
  refine ⟨_,rfl,p1,l1,_,_,rfl,rfl,upd_same,t1 _ _ h1,by show 2+r.length<=sizeLine;rw [sizeLine_eq];omega,fun p2 hp2=>?_⟩
  have t2:=Same.tn t1 hp2 (.lst ([.int n,.int (r.length:Nat)]++r))
  refine ⟨_,rfl,l2,_,rfl,.inl (SqL.of (t2 _ _ h2)),by show 1<=sizeLine;decide,fun p3 hp3=>?_⟩
  have hp23:p2≠p3:=fun z=>by rw [z] at hp3;rw [upd_same] at hp3;cases hp3
  refine ⟨p2,p3,_,_,rfl,rfl,by rw [upd_ne hp23];exact upd_same,upd_same,by simp;rw [sizeLine_eq];omega,fun p4 hp4=>?_⟩
  have t4:=Same.tn (Same.tn t2 hp3 (.lst [.int (s.length:Nat)])) hp4 (.lst ([.int n,.int (r.length:Nat)]++r++[.int (s.length:Nat)]))
  refine ⟨_,rfl,p4,l2,_,_,rfl,rfl,upd_same,t4 _ _ h2,by simp;rw [sizeLine_eq];omega,fun p5 hp5=>?_⟩
  exact k _ p5 (Same.tn t4 hp5 _) (t4.free hp5) upd_same
def spLoad (A:Ad):Sp:=fun vs H Q _=>∃(p ar:Addr) (FM FT GT:List Addr) (x:SState) (b:Bytes),vs=[.ref p,.ref ar]/\StAt A H p FM FT GT x/\RowsAt H ar [bV b]/\EndsS A H p FM FT GT Q (Hushwork.step x (.load b))
theorem sc_answer_load:FnScope ["state","rows","text","circuit","e"] ["state","rows"] (defScope s_answer_load):=scB
theorem ok_answer_load (T:Txt K mg A):FnOk P w K mg base CX0 7 A.f_answer_load A.d_answer_load ["state","rows"] (spLoad A):=by
 refine T.answer_load.fn.okA sc_answer_load (fun _ _ _ _ H _ Q E hr h=>?_)
 obtain ⟨p,ar,FM,FT,GT,x,b,rfl,hS,hR,k⟩:=h
 refine ⟨_,(pss_cons (ps_asg (pe_ix (ixL K) (pv 1) pe_int (fun _ _=>rfl)) (pgN (i:=2) sc_answer_load.nd rfl (Or.inl rfl)))
  (pss_cons (ps_if (pt_cmpR op_gt (pe_callB (lenS K) (by rfl) T.n_len PySem.boot_len (pa_cons (pv 2) pa_nil)) (pe_gint rfl T.i_LONGEST_TEXT) (nomark _)) (pss_one (ps_ret (pe_call (ok_refusal T) (rm hr) rfl T.refusal.mg_ T.refusal.fn.kp T.refusal.bi .nil pass0 (pa_cons (pe_un un_neg pe_int) pa_nil)))) pss_nil)
  (pss_cons (ps_try (Q:=Q) (ie:=4) rfl rfl rfl sc_answer_load.nd rfl rfl rfl T.mg_GoesWrong T.ex_GoesWrong (fun _=>(pss_one (ps_asg (pe_call (ok_read_circuit T) (rm hr) rfl T.read_circuit.mg_ T.read_circuit.fn.kp T.read_circuit.bi .nil passW (pa_cons (pv 2) pa_nil)) (pgN (i:=3) sc_answer_load.nd rfl (Or.inl rfl))))) (fun _=>(pss_one (ps_ret (pe_callH (ok_replyH T) (Room.mark hr (by decide)) rfl T.reply.mg_ T.reply.fn.kp T.reply.bi (pa_cons (pe_un un_neg pe_int) (pa_cons (pe_lst pa_nil) (pa_cons (pe_lst (pa_cons (pe_fldX (C:=A.c_GoesWrong) (fI:=A.f_GoesWrong_init) (pv 4) rfl) pa_nil)) pa_nil))))))))
  (pss_cons (ps_fld (pv 0) (pv 3) rfl)
  (pss_one (ps_ret (pe_call (ok_reply T) (rm hr) rfl T.reply.mg_ T.reply.fn.kp T.reply.bi .nil pass0 (pa_cons pe_int (pa_cons (pe_lst pa_nil) (pa_cons (pe_lst pa_nil) pa_nil)))))))))),?_⟩
 obtain ⟨xs,sl,h1,h2,h3⟩:=hR.row (i:=0) rfl (z:=0) rfl
 refine ⟨_,rfl,ar,_,_,_,rfl,rfl,SqL.of h1,h2,fun σ' es=>?_⟩
 obtain rfl:σ'=[some (.ref p),some (.ref ar),some (.ref sl),none,none]:=es
 have hmk:Hushwork.step x (.load b)=if Hushwork.LOOKED < b.length then (x,says (-2)) else (match Hush.read b with
  |.error p=>(x,Hushwork.tells (-6) [p])
  |.ok c=>(⟨some c,x.maker,x.taker⟩,says 0)):=rfl
 rw [hmk] at k
 refine ⟨_,rfl,sl,_,rfl,.inl (SqL.of h3),_,_,rfl,rfl,_,rfl,?_⟩
 rw [bV_length]
 refine iteB (fun c=>?_) fun c=>?_
 ·rw [dT] at c
  rw [if_pos (by show 256 < _;omega)] at k
  exact ⟨_,rfl,_,rfl,fun H' q s1 hq e=>EndsS.stay hS k H' q s1 hq (by rw [<-rep_says];exact e)⟩
 rw [dF] at c
 rw [if_neg (by show ¬256 < _;omega)] at k
 refine ⟨fun v H' q=>q,_,rfl,sl,b,rfl,h3,by omega,fun ci ec H1 q s1 hq hC=>?_,fun n en H1 dx k1 hdx=>?_⟩
 ·rw [ec] at k
  dsimp only at k
  refine fun σ' es=>?_
  obtain rfl:σ'=[some (.ref p),some (.ref ar),some (.ref sl),some (.ref q),none]:=es
  obtain ⟨dx,vc,vm,vt,e,g1,g2,g3⟩:=(hS.same s1).ex
  have nd:=hS.nd
  refine ⟨_,rfl,_,rfl,p,_,dx,_,rfl,e,T.c_State.cl,T.c_State.n,(by show 3 < 1000;decide),?_⟩
  rw [sfs_cput]
  have k2:Keep [p] H1 (upd H1 p (.ins A.c_State dx (sfs (.ref q) vm vt))):=Keep.set e (fun z=>z) (by simp)
  have hS2:StAt A (upd H1 p (.ins A.c_State dx (sfs (.ref q) vm vt))) p FM FT GT ⟨some ci,x.maker,x.taker⟩:=by
   have hnp:=(List.nodup_cons.mp nd).1
   refine ⟨⟨dx,_,vm,vt,upd_same,⟨q,rfl,hC.keep k2⟩,g2.keep k2 fun b hb=>?_,g3.keep k2 fun b hb=>?_⟩,nd⟩
   ·simp only [List.mem_singleton]
    intro z
    rw [z] at hb
    exact hnp (List.mem_append_left _ hb)
   ·simp only [List.mem_singleton]
    intro z
    rw [z] at hb
    exact hnp (List.mem_append_right _ hb)
  generalize upd H1 p (.ins A.c_State dx (sfs (.ref q) vm vt))=H2 at k2 hS2
  refine ⟨Nat.zero_le _,fun q1 hq1=>⟨Nat.zero_le _,fun q2 hq2=>?_⟩⟩
  have h12:q1≠q2:=(upd_none hq2).2.symm
  have tt:=Same.tn (Same.new hq1 (o:=.lst [])) hq2 (.lst [])
  refine ⟨_,q1,q2,[],[],rfl,by rw [upd_ne h12];exact upd_same,upd_same,Nat.zero_le _,Nat.zero_le _,fun H' q' s2 hq' e'=>?_⟩
  rw [rep_says] at e'
  have ss:=tt.trans s2
  have hq0:H q'=none:=by
   have h9:=tt.free hq'
   refine s1.free (k2.some ?_ h9)
   simp only [List.mem_singleton]
   intro z
   obtain ⟨dx',vc',vm',vt',e2,_⟩:=hS2.ex
   rw [z,e2] at h9
   cases h9
  exact k H' q' FM FT GT ((s1.keep.trans (k2.mono (by simp))).trans ss.keep) (hS2.same ss) (fun b hb=>.inl hb) hq0 e'
 ·rw [en] at k
  dsimp only at k
  have s1:Same H H1:=k1.same
  refine ⟨rfl,dx,rfl,fun ea σ' hea hlen=>?_⟩
  have s2:Same H1 (upd H1 ea (excH A.c_GoesWrong dx ea)):=Same.new hea
  refine ⟨_,rfl,Nat.zero_le _,fun q1 hq1=>?_⟩
  have s3:=Same.tn s2 hq1 (.lst [])
  have hee:upd (upd H1 ea (excH A.c_GoesWrong dx ea)) q1 (.lst []) ea=some (excH A.c_GoesWrong dx ea):=by
   rw [upd_ne (ne_of_none (upd_same (H:=H1) (a:=ea) (o:=excH A.c_GoesWrong dx ea)) hq1)]
   exact upd_same
  refine ⟨.ref ea,by rw [List.getElem?_set];simp [hlen],ea,dx,_,_,rfl,hee,T.ex_GoesWrong,no_place,s3 _ _ hdx,rfl,(by show 1<=sizeLine;decide),fun q2 hq2=>?_⟩
  have h12:q1≠q2:=(upd_none hq2).2.symm
  have s4:=Same.tn s3 hq2 (.lst [.int (n:Int)])
  refine ⟨_,q1,q2,[],_,rfl,by rw [upd_ne h12];exact upd_same,upd_same,Nat.zero_le _,(by show 1<=2000;decide),fun H' q' s5 hq' e'=>?_⟩
  refine EndsS.stay hS k H' q' ((s1.trans s4).trans s5) ((s1.trans s4).free hq') ?_
  rw [e']
  exact congrArg (fun z=>some (HO.lst z)) (rep_ans _ [] [(n:Int)])
theorem StAt.there {A:Ad} {H:Hp} {p:Addr} {FM FT GT:List Addr} {x:SState} (h:StAt A H p FM FT GT x):∀b∈p::(FM++(FT++GT)),∃o,H b=some o:=by
 obtain ⟨dx,vc,vm,vt,e,h1,h2,h3⟩:=h.ex
 intro b hb
 rcases List.mem_cons.mp hb with r|hb
 ·rw [r];exact ⟨_,e⟩
 rcases List.mem_append.mp hb with hb|hb
 ·cases hm:x.maker with
  |none=>rw [hm] at h2;rw [h2.2] at hb;cases hb
  |some m=>
   rw [hm] at h2
   obtain ⟨mp,l,t,_,e2,hM⟩:=h2
   rw [e2] at hb
   simp only [List.mem_cons,List.not_mem_nil,or_false] at hb
   rcases hb with r|r
   ·rw [r];exact ⟨_,hM.lab⟩
   ·rw [r];exact ⟨_,hM.tld⟩
 ·cases ht:x.taker with
  |none=>rw [ht] at h3;rw [h3.2.1,h3.2.2] at hb;cases hb
  |some m=>
   rw [ht] at h3
   obtain ⟨tp,l,pc,_,e2,e3,hM⟩:=h3
   obtain ⟨ls,n,fed,hT,_⟩:=hM.tk
   obtain ⟨ca,sa,dx',hp,_,_⟩:=hT.ww
   rw [e2,e3] at hb
   simp only [List.mem_append,List.mem_cons,List.not_mem_nil,or_false] at hb
   rcases hb with (r|r)|r
   ·rw [r];exact ⟨_,hp⟩
   ·rw [r];exact ⟨_,hT.lab⟩
   ·rw [r];exact ⟨_,hT.pce⟩
def spShp (A:Ad):Sp:=fun vs H Q _=>∃(p:Addr) (ar:V) (FM FT GT:List Addr) (x:SState) (c:Hush.Circuit),vs=[.ref p,ar]/\StAt A H p FM FT GT x/\x.circuit=some c/\EndsS A H p FM FT GT Q (Hushwork.onCircuit x c .shape)
theorem sc_answer_shape:FnScope ["state","rows"] ["state","rows"] (defScope s_answer_shape):=scB
theorem ok_answer_shape (T:Txt K mg A):FnOk P w K mg base CX0 3 A.f_answer_shape A.d_answer_shape ["state","rows"] (spShp A):=by
 refine T.answer_shape.fn.okA sc_answer_shape (fun _ _ _ _ H _ Q E hr h=>?_)
 obtain ⟨p,ar,FM,FT,GT,x,c,rfl,hS,hc,k⟩:=h
 refine ⟨_,(pss_one (ps_ret (pe_call (ok_reply T) (rm hr) rfl T.reply.mg_ T.reply.fn.kp T.reply.bi .nil pass0 (pa_cons pe_int (pa_cons (pe_lst pa_nil) (pa_cons (pe_meth0R (fldK K (pv 0)) T.c_Circuit.cl T.m_Circuit_shape (ok_Circuit_shape T) (rm hr) T.Circuit_shape.bi .nil pass0) pa_nil)))))),?_⟩
 refine ⟨Nat.zero_le _,fun q1 hq1=>?_⟩
 have s1:Same H (upd H q1 (.lst [])):=Same.new hq1
 obtain ⟨dx,vc,vm,vt,e,g1,g2,g3⟩:=(hS.same s1).ex
 rw [hc] at g1
 obtain ⟨ca,rfl,hC⟩:=g1
 obtain ⟨dc,lg,lo,gs,h1,h2,h3,h4,h5⟩:=hC.ex
 refine ⟨_,rfl,p,_,dx,_,_,rfl,.inl e,T.c_State.cl,T.c_State.n,sfs_c _ _ _,ca,dc,_,rfl,h1.rd,rfl,ca,c,rfl,hC,fun H2 l s2 hl e2=>?_⟩
 refine ⟨_,q1,l,[],_,rfl,s2 _ _ upd_same,e2,Nat.zero_le _,(by show 5<=2000;decide),fun H' q s3 hq e'=>?_⟩
 refine EndsS.stay hS k H' q ((s1.trans s2).trans s3) ((s1.trans s2).free hq) ?_
 rw [e']
 exact congrArg (fun z=>some (HO.lst z)) (rep_ans 0 [] (Hushwork.ints [c.na,c.nb,c.gates.length,c.outs.length,c.odds]))
def spPl (A:Ad):Sp:=fun vs H Q _=>∃(p ar:Addr) (FM FT GT:List Addr) (x:SState) (c:Hush.Circuit) (a b:List Nat),vs=[.ref p,.ref ar]/\StAt A H p FM FT GT x/\x.circuit=some c/\RowsAt H ar [nV a,nV b]/\EndsS A H p FM FT GT Q (Hushwork.onCircuit x c (.plain a b))
theorem sc_answer_plain:FnScope ["state","rows","circuit","bits","bit"] ["state","rows"] (defScope s_answer_plain):=scB
theorem ok_answer_plain (T:Txt K mg A):FnOk P w K mg base CX0 3 A.f_answer_plain A.d_answer_plain ["state","rows"] (spPl A):=by
 refine T.answer_plain.fn.okA sc_answer_plain (fun _ _ _ _ H _ Q E hr h=>?_)
 obtain ⟨p,ar,FM,FT,GT,x,c,a,b,rfl,hS,hc,hR,k⟩:=h
 refine ⟨_,(pss_cons (ps_asg (fldK K (pv 0)) (pgN (i:=2) sc_answer_plain.nd rfl (Or.inl rfl)))
  (pss_cons (ps_if (PW.pt (pw_or (pt_cmpR op_ne (pe_callB (lenS K) (by rfl) T.n_len PySem.boot_len (pa_cons (pe_ix (ixL K) (pv 1) pe_int (fun _ _=>rfl)) pa_nil)) (fldK K (pv 2)) (nomark _)) (pw_or1 (pt_cmpR op_ne (pe_callB (lenS K) (by rfl) T.n_len PySem.boot_len (pa_cons (pe_ix (ixL K) (pv 1) pe_int (fun _ _=>rfl)) pa_nil)) (fldK K (pv 2)) (nomark _))))) (pss_one (ps_ret (pe_call (ok_refusal T) (rm hr) rfl T.refusal.mg_ T.refusal.fn.kp T.refusal.bi .nil pass0 (pa_cons (pe_un un_neg pe_int) pa_nil)))) pss_nil)
  (pss_cons (ps_asg (pe_op op_cat (pe_ix (ixL K) (pv 1) pe_int (fun _ _=>rfl)) (pe_ix (ixL K) (pv 1) pe_int (fun _ _=>rfl))) (pgN (i:=3) sc_answer_plain.nd rfl (Or.inl rfl)))
  (pss_cons (ps_if (truthK K (pe_callB (anyS K) (by rfl) T.n_any PyProof.Rows.boot_any (pa_cons (pe_lc (own:=[("bit",4)]) rfl sc_answer_plain.nd (pi_list (pv 3)) (blkOk_by rfl) (fun _ _ _ _ _=>(pg_name (i:=4) sc_answer_plain.nd rfl (Or.inl rfl))) (fun _ _ _ _ _=>pts_nil) (fun _ _ _ _ _=>(pe_cmpR op_gt (pv 4) pe_int (nomark _)))) pa_nil)) (fun _=>rfl)) (pss_one (ps_ret (pe_call (ok_refusal T) (rm hr) rfl T.refusal.mg_ T.refusal.fn.kp T.refusal.bi .nil pass0 (pa_cons (pe_un un_neg pe_int) pa_nil)))) pss_nil)
  (pss_one (ps_ret (pe_call (ok_reply T) (rm hr) rfl T.reply.mg_ T.reply.fn.kp T.reply.bi .nil pass0 (pa_cons pe_int (pa_cons (pe_lst pa_nil) (pa_cons (pe_methR (pv 2) T.c_Circuit.cl T.m_Circuit_output_bits (ok_Circuit_output_bits T) (rm hr) T.Circuit_output_bits.bi .nil pass0 (pa_cons (pv 3) pa_nil)) pa_nil)))))))))),?_⟩
 obtain ⟨dx,vc,vm,vt,e,g1,g2,g3⟩:=hS.ex
 rw [hc] at g1
 obtain ⟨ca,rfl,hC⟩:=g1
 obtain ⟨dc,lg,lo,gs,f1,f2,f3,f4,f5⟩:=hC.ex
 obtain ⟨xs,l0,r1,r2,r3⟩:=hR.row (i:=0) rfl (z:=0) rfl
 obtain ⟨xs',l1,r1',r2',r3'⟩:=hR.row (i:=1) rfl (z:=1) rfl
 have hxx:xs'=xs:=by rw [r1] at r1';injection r1' with z;injection z with z;exact z.symm
 subst hxx
 have k1:Ends1 H Q (if a.length≠c.na\/b.length≠c.nb\/(a++b).any (fun (n:Nat)=>decide (1 < n))=true then says (-1) else Hushwork.tells 0 ((Hush.plain c ((a++b).map fun (n:Nat)=>n == 1)).map Hushwork.one01)):=EndsS.stay hS k
 refine ⟨_,rfl,p,_,dx,_,_,rfl,.inl e,T.c_State.cl,T.c_State.n,sfs_c _ _ _,fun σ' es=>?_⟩
 obtain rfl:σ'=[some (.ref p),some (.ref ar),some (.ref ca),none,none]:=es
 have nvl:∀l:List Nat,(nV l).length=l.length:=fun l=>List.length_map ..
 have bad:(a.length≠c.na\/b.length≠c.nb\/(a++b).any (fun (n:Nat)=>decide (1 < n))=true)->∀H1,Same H H1->spRefusal [.int (-1)] H1 Q E0:=fun hb H1 s1=>by
  rw [if_pos hb] at k1
  exact ⟨_,rfl,fun H' q s2 hq e=>k1 H' q (s1.trans s2) (s1.free hq) (by rw [<-rep_says];exact e)⟩
 refine ⟨_,rfl,ar,_,_,_,rfl,rfl,SqL.of r1,r2,l0,_,rfl,.inl (SqL.of r3),_,rfl,ca,_,dc,_,_,rfl,f1.rd,T.c_Circuit.cl,T.c_Circuit.n,cfs_ma,rfl,_,rfl,?_⟩
 rw [nvl]
 refine iteB (fun c1=>?_) fun c1=>?_
 ·simp only [Bool.not_eq_true',decide_eq_false_iff_not] at c1
  exact ⟨_,rfl,bad (.inl fun z=>c1 (by rw [z])) H (Same.refl _)⟩
 simp only [Bool.not_eq_false',decide_eq_true_eq,V.int.injEq] at c1
 refine ⟨_,rfl,ar,_,_,_,rfl,rfl,SqL.of r1,r2',l1,_,rfl,.inl (SqL.of r3'),_,rfl,ca,_,dc,_,_,rfl,f1.rd,T.c_Circuit.cl,T.c_Circuit.n,cfs_tb,rfl,_,rfl,?_⟩
 rw [nvl]
 refine iteB (fun c2=>?_) fun c2=>?_
 ·simp only [Bool.not_eq_true',decide_eq_false_iff_not] at c2
  exact ⟨_,rfl,bad (.inr (.inl fun z=>c2 (by rw [z]))) H (Same.refl _)⟩
 simp only [Bool.not_eq_false',decide_eq_true_eq,V.int.injEq] at c2
 have ea:a.length=c.na:=by omega
 have eb:b.length=c.nb:=by omega
 have wa:=hC.wf.na
 have wb:=hC.wf.nb
 refine ⟨_,rfl,ar,_,_,_,rfl,rfl,SqL.of r1,r2,_,rfl,ar,_,_,_,rfl,rfl,SqL.of r1,r2',l0,l1,_,_,rfl,rfl,r3,r3',by rw [nvl,nvl,sizeLine_eq];omega,fun q1 hq1=>fun σ' es=>?_⟩
 obtain rfl:σ'=[some (.ref p),some (.ref ar),some (.ref ca),some (.ref q1),none]:=es
 have enab:nV a++nV b=nV (a++b):=by unfold nV;rw [List.map_append]
 rw [enab]
 have hl1:(a++b).length=c.ins:=by rw [List.length_append,ea,eb];rfl
 have hins:c.ins<=32:=by show c.na+c.nb<=32;omega
 generalize hab:a++b=ab at*
 have s1:Same H (upd H q1 (.lst (nV ab))):=Same.new hq1
 have hq1':upd H q1 (.lst (nV ab)) q1=some (.lst (nV ab)):=upd_same
 generalize upd H q1 (.lst (nV ab))=H1 at s1 hq1'
 refine ⟨_,rfl,q1,rfl,⟨_,SqL.of hq1'⟩,fun D hD=>?_⟩
 have hqD:q1≠D:=ne_of_none hq1' hD
 refine lc_list (K:=K) (a:=q1) (xs:=nV ab) (fun i H'=>H'=upd H1 D (.lst (((ab.map fun n=>decide (1 < n)).map V.bl).take i))) rfl (fun i H' _ e=>by rw [e];exact SqL.of (by rw [upd_ne hqD];exact hq1')) ?_ ?_
 ·rintro i u H' hu rfl
  unfold nV at hu
  rw [List.getElem?_map] at hu
  cases hn:ab[i]? with
  |none=>rw [hn] at hu;cases hu
  |some n=>
   rw [hn] at hu
   obtain rfl:V.int (n:Int)=u:=by injection hu
   have hi:=(List.getElem?_eq_some_iff.mp hn).1
   refine ⟨rfl,_,rfl,_,_,rfl,rfl,_,upd_same,sz (m:=1000) (by rw [List.length_take,List.length_map,List.length_map];omega),?_⟩
   have e1:decide ((n:Int) > 1)=decide (1 < n):=by
    by_cases h:1 < n
    ·rw [decide_eq_true h,decide_eq_true (by omega)]
    ·rw [decide_eq_false h,decide_eq_false (by omega)]
   have e:((ab.map fun n=>decide (1 < n)).map V.bl)[i]?=some (.bl (decide (1 < n))):=by rw [List.getElem?_map,List.getElem?_map,hn];rfl
   rw [upd_upd,take_snoc e]
   exact congrArg (fun z=>upd H1 D (.lst (((ab.map fun n=>decide (1 < n)).map V.bl).take i++[V.bl z]))) e1
 ·rintro H' rfl
  rw [List.take_of_length_le (by rw [List.length_map,List.length_map];unfold nV;rw [List.length_map];exact Nat.le_refl _)]
  have s2:Same H (upd H1 D (.lst ((ab.map fun n=>decide (1 < n)).map V.bl))):=Same.tn s1 hD _
  refine ⟨D,_,rfl,SqL.of upd_same,_,rfl,?_⟩
  have e2:(ab.map fun n=>decide (1 < n)).any id=ab.any fun n=>decide (1 < n):=by rw [List.any_map];rfl
  rw [e2]
  refine iteB (fun c3=>?_) fun c3=>?_
  ·exact ⟨_,rfl,bad (.inr (.inr c3)) _ s2⟩
  rw [if_neg (fun z=>z.elim (fun z=>z ea) fun z=>z.elim (fun z=>z eb) fun z=>by rw [c3] at z;cases z)] at k1
  have hq1D:upd H1 D (.lst ((ab.map fun n=>decide (1 < n)).map V.bl)) q1=some (.lst (nV ab)):=by rw [upd_ne hqD];exact hq1'
  generalize upd H1 D (.lst ((ab.map fun n=>decide (1 < n)).map V.bl))=H2 at s2 hq1D
  refine ⟨Nat.zero_le _,fun q2 hq2=>?_⟩
  have s3:=Same.tn s2 hq2 (.lst [])
  have hC3:=hC.same s3
  have hv:nV ab=oV (ab.map fun (n:Nat)=>n == 1):=by
   unfold nV oV
   rw [List.map_map]
   refine List.map_congr_left fun n hn=>?_
   have h1:¬1 < n:=fun z=>by
    have h9:(ab.any fun n=>decide (1 < n))=true:=List.any_eq_true.mpr ⟨n,hn,decide_eq_true z⟩
    rw [c3] at h9
    cases h9
   have h2:n=0\/n=1:=by omega
   rcases h2 with rfl|rfl <;> rfl
  have hq2':upd H2 q2 (.lst []) q1=some (.lst (nV ab)):=Same.new hq2 _ _ hq1D
  refine ⟨_,rfl,ca,dc,_,rfl,(Same.fz s3 f1).rd,rfl,_,rfl,ca,q1,c,ab.map (fun (n:Nat)=>n == 1),rfl,hC3,SqL.of (by rw [hq2',hv]),by rw [List.length_map,hl1],fun H4 q s4 hq e4=>?_⟩
  have hq24:H4 q2=some (.lst []):=s4 _ _ upd_same
  refine ⟨_,q2,q,[],_,rfl,hq24,e4,Nat.zero_le _,?_,fun H' q' s5 hq' e'=>?_⟩
  ·rw [oV_length]
   unfold Hush.plain
   rw [List.length_map]
   have:=hC.wf.no
   omega
  ·refine k1 H' q' ((s3.trans s4).trans s5) ((s3.trans s4).free hq') ?_
   rw [e']
   refine congrArg (fun z=>some (HO.lst z)) ?_
   have e6:oV (Hush.plain c (ab.map fun (n:Nat)=>n == 1))=(Hushwork.ints ((Hush.plain c (ab.map fun (n:Nat)=>n == 1)).map Hushwork.one01)).map V.int:=by
    unfold oV Hushwork.ints
    rw [List.map_map,List.map_map]
    refine List.map_congr_left fun v _=>?_
    cases v <;> rfl
   rw [e6]
   exact rep_ans 0 [] _
def spBeg (A:Ad):Sp:=fun vs H Q _=>∃(p ar:Addr) (FM FT GT:List Addr) (x:SState) (c:Hush.Circuit) (key seed:Bytes),vs=[.ref p,.ref ar]/\StAt A H p FM FT GT x/\x.circuit=some c/\RowsAt H ar [bV key,bV seed]/\key.length=16/\seed.length=16/\EndsS A H p FM FT GT Q (Hushwork.onCircuit x c (.begin_ key seed))
theorem sc_answer_begin:FnScope ["state","rows"] ["state","rows"] (defScope s_answer_begin):=scB
theorem ok_answer_begin (T:Txt K mg A):FnOk P w K mg base CX0 6 A.f_answer_begin A.d_answer_begin ["state","rows"] (spBeg A):=by
 refine T.answer_begin.fn.okA sc_answer_begin (fun _ _ _ _ H _ Q E hr h=>?_)
 obtain ⟨p,ar,FM,FT,GT,x,c,key,seed,rfl,hS,hc,hR,hk,hs,k⟩:=h
 refine ⟨_,(pss_cons (ps_fld (pv 0) (pe_frz (pe_make T.c_Maker.mk_ (ok_Maker_init T) (rm hr) rfl T.c_Maker.mg_ T.Maker_init.bi .nil pass0 (pa_cons (fldK K (pv 0)) (pa_cons (pe_ix (ixL K) (pv 1) pe_int (fun _ _=>rfl)) (pa_cons (pe_ix (ixL K) (pv 1) pe_int (fun _ _=>rfl)) pa_nil))))) rfl)
  (pss_one (ps_ret (pe_call (ok_reply T) (rm hr) rfl T.reply.mg_ T.reply.fn.kp T.reply.bi .nil pass0 (pa_cons pe_int (pa_cons (pe_lst pa_nil) (pa_cons (pe_lst pa_nil) pa_nil))))))),?_⟩
 obtain ⟨dx,vc,vm,vt,e,g1,g2,g3⟩:=hS.ex
 rw [hc] at g1
 obtain ⟨ca,rfl,hC⟩:=g1
 obtain ⟨xs,l0,r1,r2,r3⟩:=hR.row (i:=0) rfl (z:=0) rfl
 obtain ⟨xs',l1,r1',r2',r3'⟩:=hR.row (i:=1) rfl (z:=1) rfl
 have hxx:xs'=xs:=by rw [r1] at r1';injection r1' with z;injection z with z;exact z.symm
 subst hxx
 have hmk:Hushwork.onCircuit x c (.begin_ key seed)=(⟨x.circuit,some (Hushwork.makerOf c key seed),x.taker⟩,says 0):=by
  show (if Hushwork.sixteen [key,seed]=true then _ else _)=_
  rw [if_pos]
  unfold Hushwork.sixteen
  simp [hk,hs]
 rw [hmk] at k
 refine ⟨_,rfl,p,_,dx,_,_,rfl,.inl e,T.c_State.cl,T.c_State.n,sfs_c _ _ _,_,rfl,ar,_,_,_,rfl,rfl,SqL.of r1,r2,_,rfl,ar,_,_,_,rfl,rfl,SqL.of r1,r2',fun mp md nm nd ne=>?_⟩
 have s1:Same H (upd (upd H md (.own mp)) mp (.ins A.c_Maker md [])):=Same.young (Same.new nd) nm
 have hl0:l0≠mp:=ne_of_none r3 nm
 refine ⟨mp,md,ca,l0,l1,c,key,seed,rfl,upd_same,hC.same s1,SqL.of (s1 _ _ r3),hl0,SqL.of (s1 _ _ r3'),hk,hs,fun H2 sa l t k2 hm hSc hl ht l0' t0' hlt=>?_⟩
 refine ⟨rfl,mp,_,rfl,hm,trivial,fun od=>?_⟩
 have hl0:H l=none:=s1.free l0'
 have ht0:H t=none:=s1.free t0'
 have s2:Same H H2:=((s1.keep (F:=[])).young2 k2 fun b hb=>.inr (by rw [List.mem_singleton.mp hb];exact nm)).same
 have s3:Same H (upd H2 mp (.frz od (.ins A.c_Maker md (mfs ca sa l t (Hush.difference seed))))):=Same.young s2 nm
 have hlm:l≠mp:=fun z=>by rw [z,hm] at hl;cases hl
 have htm:t≠mp:=fun z=>by rw [z,hm] at ht;cases ht
 have k3:Keep [mp] H2 (upd H2 mp (.frz od (.ins A.c_Maker md (mfs ca sa l t (Hush.difference seed))))):=Keep.set hm (fun z=>z) (by simp)
 have hMk:MakerAt A (upd H2 mp (.frz od (.ins A.c_Maker md (mfs ca sa l t (Hush.difference seed))))) mp l t (Hushwork.makerOf c key seed):=
  ⟨hk,hs,rfl,Nat.zero_le _,List.length_replicate,⟨md,ca,sa,⟨od,upd_same⟩,hC.same s3,hSc.keep k3⟩,k3.at_ hl (by simp;exact hlm),k3.at_ ht (by simp;exact htm),hlt⟩
 generalize upd H2 mp (.frz od (.ins A.c_Maker md (mfs ca sa l t (Hush.difference seed))))=H3 at s3 hMk
 refine ⟨_,rfl,p,_,dx,_,rfl,s3 _ _ e,T.c_State.cl,T.c_State.n,(by show 3 < 1000;decide),?_⟩
 rw [sfs_mput]
 have k4:Keep [p] H3 (upd H3 p (.ins A.c_State dx (sfs (.ref ca) (.ref mp) vt))):=Keep.set (s3 _ _ e) (fun z=>z) (by simp)
 have nd0:=hS.nd
 have hnp:=(List.nodup_cons.mp nd0).1
 have old:∀b∈p::(FT++GT),b≠l/\b≠t:=fun b hb=>by
  obtain ⟨o,ho⟩:=hS.there b (by
   rcases List.mem_cons.mp hb with r|r
   ·rw [r];exact List.mem_cons_self ..
   ·exact List.mem_cons_of_mem _ (List.mem_append_right _ r))
  exact ⟨ne_of_none ho hl0,ne_of_none ho ht0⟩
 have hS4:StAt A (upd H3 p (.ins A.c_State dx (sfs (.ref ca) (.ref mp) vt))) p [l,t] FT GT ⟨x.circuit,some (Hushwork.makerOf c key seed),x.taker⟩:=by
  have h1:=old p (List.mem_cons_self ..)
  refine ⟨⟨dx,_,_,vt,upd_same,?_,⟨mp,l,t,rfl,rfl,hMk.keep k4 (by simp;exact h1.1.symm) (by simp;exact h1.2.symm)⟩,(g3.keep (s3.keep (F:=[p])) (fun b hb=>?_)).keep k4 (fun b hb=>?_)⟩,?_⟩
  ·rw [hc]
   exact ⟨ca,rfl,(hC.same s3).keep k4⟩
  ·simp only [List.mem_singleton]
   intro z
   rw [z] at hb
   exact hnp (List.mem_append_right _ hb)
  ·simp only [List.mem_singleton]
   intro z
   rw [z] at hb
   exact hnp (List.mem_append_right _ hb)
  ·have n2:=(List.nodup_append.mp (List.nodup_cons.mp nd0).2).2.1
   refine List.nodup_cons.mpr ⟨fun z=>?_,List.nodup_cons.mpr ⟨fun z=>?_,List.nodup_cons.mpr ⟨fun z=>?_,n2⟩⟩⟩
   ·simp only [List.cons_append,List.nil_append,List.mem_cons] at z
    rcases z with z|z|z
    ·exact h1.1 z
    ·exact h1.2 z
    ·exact hnp (List.mem_append_right _ z)
   ·rcases List.mem_cons.mp (show l∈t::(FT++GT) from z) with z|z
    ·exact hlt z
    ·exact (old l (List.mem_cons_of_mem _ z)).1 rfl
   ·exact (old t (List.mem_cons_of_mem _ z)).2 rfl
 generalize upd H3 p (.ins A.c_State dx (sfs (.ref ca) (.ref mp) vt))=H4 at k4 hS4
 refine ⟨Nat.zero_le _,fun q1 hq1=>⟨Nat.zero_le _,fun q2 hq2=>?_⟩⟩
 have h12:q1≠q2:=(upd_none hq2).2.symm
 have tt:=Same.tn (Same.new hq1 (o:=.lst [])) hq2 (.lst [])
 refine ⟨_,q1,q2,[],[],rfl,by rw [upd_ne h12];exact upd_same,upd_same,Nat.zero_le _,Nat.zero_le _,fun H' q' s2' hq' e'=>?_⟩
 rw [rep_says] at e'
 have ss:=tt.trans s2'
 have hq0:H q'=none:=by
  have h9:=tt.free hq'
  refine s3.free (k4.some ?_ h9)
  simp only [List.mem_singleton]
  intro z
  obtain ⟨o,ho⟩:=hS4.there p (List.mem_cons_self ..)
  rw [z,ho] at h9
  cases h9
 refine k H' q' [l,t] FT GT ((s3.keep.trans (k4.mono (by simp))).trans ss.keep) (hS4.same ss) (fun b hb=>?_) hq0 e'
 simp only [List.cons_append,List.nil_append,List.mem_cons] at hb
 rcases hb with r|r|r
 ·rw [r];exact .inr hl0
 ·rw [r];exact .inr ht0
 ·exact .inl (List.mem_append_right _ r)
def spOpn (A:Ad):Sp:=fun vs H Q _=>∃(p ar:Addr) (FM FT GT:List Addr) (x:SState) (c:Hush.Circuit) (key:Bytes),vs=[.ref p,.ref ar]/\StAt A H p FM FT GT x/\x.circuit=some c/\RowsAt H ar [bV key]/\key.length=16/\EndsS A H p FM FT GT Q (Hushwork.onCircuit x c (.open_ key))
theorem sc_answer_new_taker:FnScope ["state","rows"] ["state","rows"] (defScope s_answer_new_taker):=scB
theorem ok_answer_new_taker (T:Txt K mg A):FnOk P w K mg base CX0 6 A.f_answer_new_taker A.d_answer_new_taker ["state","rows"] (spOpn A):=by
 refine T.answer_new_taker.fn.okA sc_answer_new_taker (fun _ _ _ _ H _ Q E hr h=>?_)
 obtain ⟨p,ar,FM,FT,GT,x,c,key,rfl,hS,hc,hR,hk,k⟩:=h
 refine ⟨_,(pss_cons (ps_fld (pv 0) (pe_make T.c_Taker.mk_ (ok_Taker_init T) (rm hr) rfl T.c_Taker.mg_ T.Taker_init.bi .nil pass0 (pa_cons (fldK K (pv 0)) (pa_cons (pe_ix (ixL K) (pv 1) pe_int (fun _ _=>rfl)) pa_nil))) rfl)
  (pss_one (ps_ret (pe_call (ok_reply T) (rm hr) rfl T.reply.mg_ T.reply.fn.kp T.reply.bi .nil pass0 (pa_cons pe_int (pa_cons (pe_lst pa_nil) (pa_cons (pe_lst pa_nil) pa_nil))))))),?_⟩
 obtain ⟨dx,vc,vm,vt,e,g1,g2,g3⟩:=hS.ex
 rw [hc] at g1
 obtain ⟨ca,rfl,hC⟩:=g1
 obtain ⟨xs,l0,r1,r2,r3⟩:=hR.row (i:=0) rfl (z:=0) rfl
 have hmk:Hushwork.onCircuit x c (.open_ key)=(⟨x.circuit,x.maker,some (Hushwork.takerOf c key)⟩,says 0):=by
  show (if Hushwork.sixteen [key]=true then _ else _)=_
  rw [if_pos]
  unfold Hushwork.sixteen
  simp [hk]
 rw [hmk] at k
 refine ⟨_,rfl,p,_,dx,_,_,rfl,.inl e,T.c_State.cl,T.c_State.n,sfs_c _ _ _,_,rfl,ar,_,_,_,rfl,rfl,SqL.of r1,r2,fun tp td nt nd ne=>?_⟩
 have s1:Same H (upd (upd H td (.own tp)) tp (.ins A.c_Taker td [])):=Same.young (Same.new nd) nt
 have hl0:l0≠tp:=ne_of_none r3 nt
 refine ⟨tp,td,ca,l0,c,key,rfl,upd_same,hC.same s1,SqL.of (s1 _ _ r3),hl0,hk,fun H3 l pc k2 hT l0' pc0'=>⟨rfl,?_⟩⟩
 have hl0:H l=none:=s1.free l0'
 have hpc0:H pc=none:=s1.free pc0'
 have s3:Same H H3:=((s1.keep (F:=[])).young2 k2 fun b hb=>.inr (by rw [List.mem_singleton.mp hb];exact nt)).same
 have hlt:=hT.ne_pl
 have hTk:TakerAt A H3 tp l pc (Hushwork.takerOf c key):=by
  refine ⟨List.length_replicate,fun b hb=>?_,.inl ⟨rfl,rfl,rfl,?_⟩⟩
  ·have:=(List.mem_replicate.mp hb).2
   cases this
  ·show TkAt A H3 tp l pc c key ((List.replicate c.ins none).map gvV) [] false
   rw [List.map_replicate]
   exact hT
 refine ⟨_,rfl,p,_,dx,_,rfl,s3 _ _ e,T.c_State.cl,T.c_State.n,(by show 3 < 1000;decide),?_⟩
 rw [sfs_tput]
 have k4:Keep [p] H3 (upd H3 p (.ins A.c_State dx (sfs (.ref ca) vm (.ref tp)))):=Keep.set (s3 _ _ e) (fun z=>z) (by simp)
 have nd0:=hS.nd
 have hnp:=(List.nodup_cons.mp nd0).1
 have old:∀b∈p::FM,b≠tp/\b≠l/\b≠pc:=fun b hb=>by
  obtain ⟨o,ho⟩:=hS.there b (by
   rcases List.mem_cons.mp hb with r|r
   ·rw [r];exact List.mem_cons_self ..
   ·exact List.mem_cons_of_mem _ (List.mem_append_left _ r))
  exact ⟨ne_of_none ho nt,ne_of_none ho hl0,ne_of_none ho hpc0⟩
 have hS4:StAt A (upd H3 p (.ins A.c_State dx (sfs (.ref ca) vm (.ref tp)))) p FM [tp,l] [pc] ⟨x.circuit,x.maker,some (Hushwork.takerOf c key)⟩:=by
  have h1:=old p (List.mem_cons_self ..)
  refine ⟨⟨dx,_,_,_,upd_same,?_,(g2.keep (s3.keep (F:=[p])) (fun b hb=>?_)).keep k4 (fun b hb=>?_),⟨tp,l,pc,rfl,rfl,rfl,hTk.keep k4 (by simp;exact h1.1.symm) (by simp;exact h1.2.1.symm) (by simp;exact h1.2.2.symm)⟩⟩,?_⟩
  ·rw [hc]
   exact ⟨ca,rfl,(hC.same s3).keep k4⟩
  ·simp only [List.mem_singleton]
   intro z
   rw [z] at hb
   exact hnp (List.mem_append_left _ hb)
  ·simp only [List.mem_singleton]
   intro z
   rw [z] at hb
   exact hnp (List.mem_append_left _ hb)
  ·have n2:=(List.nodup_append.mp (List.nodup_cons.mp nd0).2).1
   have mem3:∀b,b∈[tp,l]++[pc]->b=tp\/b=l\/b=pc:=fun b hb=>by simpa using hb
   refine List.nodup_cons.mpr ⟨fun z=>?_,List.nodup_append.mpr ⟨n2,?_,fun a ha b hb z=>?_⟩⟩
   ·rcases List.mem_append.mp z with z|z
    ·exact hnp (List.mem_append_left _ z)
    ·rcases mem3 _ z with z|z|z
     ·exact h1.1 z
     ·exact h1.2.1 z
     ·exact h1.2.2 z
   ·show [tp,l,pc].Nodup
    have h9:=hT.ne
    simp only [List.nodup_cons,List.mem_cons,List.not_mem_nil,or_false,not_or,not_false_eq_true,List.nodup_nil,and_true]
    exact ⟨hlt,h9.symm⟩
   ·have h8:=old a (List.mem_cons_of_mem _ ha)
    rcases mem3 _ hb with r|r|r
    ·exact h8.1 (z.trans r)
    ·exact h8.2.1 (z.trans r)
    ·exact h8.2.2 (z.trans r)
 generalize upd H3 p (.ins A.c_State dx (sfs (.ref ca) vm (.ref tp)))=H4 at k4 hS4
 refine ⟨Nat.zero_le _,fun q1 hq1=>⟨Nat.zero_le _,fun q2 hq2=>?_⟩⟩
 have h12:q1≠q2:=(upd_none hq2).2.symm
 have tt:=Same.tn (Same.new hq1 (o:=.lst [])) hq2 (.lst [])
 refine ⟨_,q1,q2,[],[],rfl,by rw [upd_ne h12];exact upd_same,upd_same,Nat.zero_le _,Nat.zero_le _,fun H' q' s2' hq' e'=>?_⟩
 rw [rep_says] at e'
 have ss:=tt.trans s2'
 have hq0:H q'=none:=by
  have h9:=tt.free hq'
  refine s3.free (k4.some ?_ h9)
  simp only [List.mem_singleton]
  intro z
  obtain ⟨o,ho⟩:=hS4.there p (List.mem_cons_self ..)
  rw [z,ho] at h9
  cases h9
 refine k H' q' FM [tp,l] [pc] ((s3.keep.trans (k4.mono (by simp))).trans ss.keep) (hS4.same ss) (fun b hb=>?_) hq0 e'
 rcases List.mem_append.mp hb with r|r
 ·exact .inl (List.mem_append_left _ r)
 ·have r:b=tp\/b=l\/b=pc:=by simpa using r
  rcases r with r|r|r
  ·rw [r];exact .inr nt
  ·rw [r];exact .inr hl0
  ·rw [r];exact .inr hpc0
def CirIs (H:Hp) (n:Int) (ar:Addr) (x:SState) (c:Hushwork.Call):Prop:=
 (n=5/\∃b:Bytes,RowsAt H ar [bV b]/\c=.load b)\/(∃ci,x.circuit=some ci/\((n=6/\c=.shape)\/(n=7/\∃a b:List Nat,RowsAt H ar [nV a,nV b]/\c=.plain a b)\/
  (n=8/\∃key seed:Bytes,RowsAt H ar [bV key,bV seed]/\key.length=16/\seed.length=16/\c=.begin_ key seed)\/(n=16/\∃key:Bytes,RowsAt H ar [bV key]/\key.length=16/\c=.open_ key)))
def spCA (A:Ad):Sp:=fun vs H Q _=>∃(p ar:Addr) (n:Int) (FM FT GT:List Addr) (x:SState) (c:Hushwork.Call),vs=[.ref p,.int n,.ref ar]/\StAt A H p FM FT GT x/\CirIs H n ar x c/\EndsS A H p FM FT GT Q (Hushwork.step x c)
theorem sc_circuit_answer:FnScope ["state","number","rows","answer"] ["state","number","rows"] (defScope s_circuit_answer):=scB
theorem ok_circuit_answer (T:Txt K mg A):FnOk P w K mg base CX0 8 A.f_circuit_answer A.d_circuit_answer ["state","number","rows"] (spCA A):=by
 refine T.circuit_answer.fn.okA sc_circuit_answer (fun _ _ _ _ H _ Q E hr h=>?_)
 obtain ⟨p,ar,n,FM,FT,GT,x,c,rfl,hS,h,k⟩:=h
 rcases h with ⟨rfl,b,hR,rfl⟩|⟨ci,hci,h⟩
 ·refine ⟨_,(pss_cons (ps_asg (kgetK K (pe_gref rfl T.t_CIRCUIT_CALLS.mg_) (pv 1) (fun _ _=>rfl)) (pgN (i:=3) sc_circuit_answer.nd rfl (Or.inl rfl)))
  (pss_one (ps_ret (pe_callV (i:=3) (ok_answer_load T) (rm hr) rfl (Or.inl rfl) T.answer_load.fn.kp T.answer_load.bi .nil pass0 (pa_cons (pv 0) (pa_cons (pv 2) pa_nil)))))),?_⟩
  refine ⟨_,rfl,_,_,_,_,rfl,T.t_CIRCUIT_CALLS.dk,rfl,rfl,fun σ' es=>?_⟩
  subst es
  exact ⟨rfl,_,rfl,_,rfl,p,ar,FM,FT,GT,x,b,rfl,hS,hR,k⟩
 have st:∀c',Hushwork.step x c'=(match x.circuit with|none=>(x,says (-8))|some y=>Hushwork.onCircuit x y c')->Hushwork.step x c'=Hushwork.onCircuit x ci c':=fun c' h1=>by rw [h1,hci]
 rcases h with ⟨rfl,rfl⟩|⟨rfl,a,b,hR,rfl⟩|⟨rfl,key,seed,hR,hk,hs,rfl⟩|⟨rfl,key,hR,hk,rfl⟩
 ·rw [st _ rfl] at k
  refine ⟨_,(pss_cons (ps_asg (kgetK K (pe_gref rfl T.t_CIRCUIT_CALLS.mg_) (pv 1) (fun _ _=>rfl)) (pgN (i:=3) sc_circuit_answer.nd rfl (Or.inl rfl)))
  (pss_one (ps_ret (pe_callV (i:=3) (ok_answer_shape T) (rm hr) rfl (Or.inl rfl) T.answer_shape.fn.kp T.answer_shape.bi .nil pass0 (pa_cons (pv 0) (pa_cons (pv 2) pa_nil)))))),?_⟩
  refine ⟨_,rfl,_,_,_,_,rfl,T.t_CIRCUIT_CALLS.dk,rfl,rfl,fun σ' es=>?_⟩
  subst es
  exact ⟨rfl,_,rfl,_,rfl,p,_,FM,FT,GT,x,ci,rfl,hS,hci,k⟩
 ·rw [st _ rfl] at k
  refine ⟨_,(pss_cons (ps_asg (kgetK K (pe_gref rfl T.t_CIRCUIT_CALLS.mg_) (pv 1) (fun _ _=>rfl)) (pgN (i:=3) sc_circuit_answer.nd rfl (Or.inl rfl)))
  (pss_one (ps_ret (pe_callV (i:=3) (ok_answer_plain T) (rm hr) rfl (Or.inl rfl) T.answer_plain.fn.kp T.answer_plain.bi .nil pass0 (pa_cons (pv 0) (pa_cons (pv 2) pa_nil)))))),?_⟩
  refine ⟨_,rfl,_,_,_,_,rfl,T.t_CIRCUIT_CALLS.dk,rfl,rfl,fun σ' es=>?_⟩
  subst es
  exact ⟨rfl,_,rfl,_,rfl,p,ar,FM,FT,GT,x,ci,a,b,rfl,hS,hci,hR,k⟩
 ·rw [st _ rfl] at k
  refine ⟨_,(pss_cons (ps_asg (kgetK K (pe_gref rfl T.t_CIRCUIT_CALLS.mg_) (pv 1) (fun _ _=>rfl)) (pgN (i:=3) sc_circuit_answer.nd rfl (Or.inl rfl)))
  (pss_one (ps_ret (pe_callV (i:=3) (ok_answer_begin T) (rm hr) rfl (Or.inl rfl) T.answer_begin.fn.kp T.answer_begin.bi .nil pass0 (pa_cons (pv 0) (pa_cons (pv 2) pa_nil)))))),?_⟩
  refine ⟨_,rfl,_,_,_,_,rfl,T.t_CIRCUIT_CALLS.dk,rfl,rfl,fun σ' es=>?_⟩
  subst es
  exact ⟨rfl,_,rfl,_,rfl,p,ar,FM,FT,GT,x,ci,key,seed,rfl,hS,hci,hR,hk,hs,k⟩
 ·rw [st _ rfl] at k
  refine ⟨_,(pss_cons (ps_asg (kgetK K (pe_gref rfl T.t_CIRCUIT_CALLS.mg_) (pv 1) (fun _ _=>rfl)) (pgN (i:=3) sc_circuit_answer.nd rfl (Or.inl rfl)))
  (pss_one (ps_ret (pe_callV (i:=3) (ok_answer_new_taker T) (rm hr) rfl (Or.inl rfl) T.answer_new_taker.fn.kp T.answer_new_taker.bi .nil pass0 (pa_cons (pv 0) (pa_cons (pv 2) pa_nil)))))),?_⟩
  refine ⟨_,rfl,_,_,_,_,rfl,T.t_CIRCUIT_CALLS.dk,rfl,rfl,fun σ' es=>?_⟩
  subst es
  exact ⟨rfl,_,rfl,_,rfl,p,ar,FM,FT,GT,x,ci,key,rfl,hS,hci,hR,hk,k⟩
def rfs (a:Addr) (k:Nat):List (Str×V):=[("calls",.ref a),("at",.int (k:Int))]
theorem rfs_c (a:Addr) (k:Nat):(rfs a k).lookup ("calls":Str)=some (.ref a):=rfl
theorem rfs_at (a:Addr) (k:Nat):(rfs a k).lookup ("at":Str)=some (.int (k:Int)):=by
 unfold rfs
 rw [List.lookup_cons,show (("at":Str) == "calls")=false by decide+kernel]
 rfl
theorem rfs_put (a:Addr) (k j:Nat):putF "at" (.int (j:Int)) (rfs a k)=rfs a j:=by
 unfold rfs
 simp only [putF,show ¬("calls":Str)="at" by decide+kernel,if_false,if_true]
theorem rfs_no {a:Addr} {k:Nat} {m:Str} (h:(["calls","at"]:List Str).all (fun x=>!(m == x))=true):(rfs a k).lookup m=none:=by
 simp only [List.all_cons,List.all_nil,Bool.and_true,Bool.and_eq_true,Bool.not_eq_true'] at h
 unfold rfs
 simp only [List.lookup_cons,h.1,h.2]
 rfl
def RdAt (A:Ad) (H:Hp) (p a:Addr) (k:Nat):Prop:=∃dx,H p=some (.ins A.c_CallReader dx (rfs a k))
def spSInit (A:Ad):Sp:=fun vs H Q _=>∃(p dx:Addr),vs=[.ref p]/\H p=some (.ins A.c_State dx [])/\Q .non (upd H p (.ins A.c_State dx (sfs .non .non .non)))
theorem sc_State_init:FnScope ["self"] ["self"] (defScope s_State_init):=scB
theorem ok_State_init (T:Txt K mg A):FnOk P w K mg base CX0 1 A.f_State_init A.d_State_init ["self"] (spSInit A):=by
 refine T.State_init.fn.okA sc_State_init (fun _ _ _ _ H _ Q E hr h=>?_)
 obtain ⟨p,dx,rfl,hp,k⟩:=h
 refine ⟨_,(pss_cons (ps_fld (pv 0) pe_non rfl)
  (pss_cons (ps_fld (pv 0) pe_non rfl)
  (pss_one (ps_fld (pv 0) pe_non rfl)))),?_⟩
 refine ⟨_,rfl,p,_,dx,_,rfl,hp,T.c_State.cl,T.c_State.n,(by show 0 < 1000;decide),?_⟩
 refine ⟨_,rfl,p,_,dx,_,rfl,upd_same,T.c_State.cl,T.c_State.n,(by show 1 < 1000;decide),?_⟩
 refine ⟨_,rfl,p,_,dx,_,rfl,upd_same,T.c_State.cl,T.c_State.n,(by show 2 < 1000;decide),?_⟩
 rw [upd_upd,upd_upd]
 have e:putF "taker" .non (putF "maker" .non (putF "circuit" .non []))=sfs .non .non .non:=by
  unfold sfs
  simp only [putF,show ¬("circuit":Str)="maker" by decide+kernel,show ¬("circuit":Str)="taker" by decide+kernel,show ¬("maker":Str)="taker" by decide+kernel,if_false]
 rw [e]
 exact k
def spRInit (A:Ad):Sp:=fun vs H Q _=>∃(p dx a:Addr),vs=[.ref p,.ref a]/\H p=some (.ins A.c_CallReader dx [])/\Q .non (upd H p (.ins A.c_CallReader dx (rfs a 0)))
theorem sc_CallReader_init:FnScope ["self","calls"] ["self","calls"] (defScope s_CallReader_init):=scB
theorem ok_CallReader_init (T:Txt K mg A):FnOk P w K mg base CX0 1 A.f_CallReader_init A.d_CallReader_init ["self","calls"] (spRInit A):=by
 refine T.CallReader_init.fn.okA sc_CallReader_init (fun _ _ _ _ H _ Q E hr h=>?_)
 obtain ⟨p,dx,a,rfl,hp,k⟩:=h
 refine ⟨_,(pss_cons (ps_fld (pv 0) (pv 1) rfl)
  (pss_one (ps_fld (pv 0) pe_int rfl))),?_⟩
 refine ⟨_,rfl,_,rfl,p,_,dx,_,rfl,hp,T.c_CallReader.cl,T.c_CallReader.n,(by show 0 < 1000;decide),?_⟩
 refine ⟨_,rfl,p,_,dx,_,rfl,upd_same,T.c_CallReader.cl,T.c_CallReader.n,(by show 1 < 1000;decide),?_⟩
 rw [upd_upd]
 have e:putF "at" (.int 0) (putF "calls" (.ref a) [])=rfs a 0:=by
  unfold rfs
  simp only [putF,show ¬("calls":Str)="at" by decide+kernel,if_false]
  rfl
 rw [e]
 exact k
def spAE (K:W.Frag) (A:Ad):Sp:=fun vs H Q _=>∃(p a:Addr) (k:Nat) (ns:List Int),vs=[.ref p]/\RdAt A H p a k/\Sta K H a (ns.map V.int)/\Q (.bl (decide (k=ns.length))) H
theorem sc_CallReader_at_end:FnScope ["self"] ["self"] (defScope s_CallReader_at_end):=scB
theorem ok_CallReader_at_end (T:Txt K mg A):FnOk P w K mg base CX0 1 A.f_CallReader_at_end A.d_CallReader_at_end ["self"] (spAE K A):=by
 refine T.CallReader_at_end.fn.okA sc_CallReader_at_end (fun _ _ _ _ H _ Q E hr h=>?_)
 obtain ⟨p,a,i,ns,rfl,⟨dx,hp⟩,hs,k⟩:=h
 refine ⟨_,(pss_one (ps_ret (pe_cmpR op_eq (fldK K (pv 0)) (pe_callB (lenS K) (by rfl) T.n_len PySem.boot_len (pa_cons (fldK K (pv 0)) pa_nil)) (nomark _)))),?_⟩
 refine ⟨_,rfl,p,_,dx,_,_,rfl,.inl hp,T.c_CallReader.cl,T.c_CallReader.n,rfs_at _ _,_,rfl,p,_,dx,_,_,rfl,.inl hp,T.c_CallReader.cl,T.c_CallReader.n,rfs_c _ _,a,_,rfl,.inl hs.sq,rfl,?_⟩
 rw [List.length_map]
 have e:decide (V.int (i:Int)=V.int (ns.length:Nat))=decide (i=ns.length):=by
  by_cases q:i=ns.length
  ·rw [q,decide_eq_true rfl,decide_eq_true rfl]
  ·rw [decide_eq_false q,decide_eq_false (fun z=>q (by injection z with z;omega))]
 rw [e]
 exact k
def spTN (K:W.Frag) (A:Ad):Sp:=fun vs H Q _=>∃(p a:Addr) (k:Nat) (ns:List Int) (n:Int),vs=[.ref p]/\RdAt A H p a k/\Sta K H a (ns.map V.int)/\ns[k]?=some n/\∀H',Keep [p] H H'->RdAt A H' p a (k+1)->Q (.int n) H'
theorem sc_CallReader_take_number:FnScope ["self","number"] ["self"] (defScope s_CallReader_take_number):=scB
theorem ok_CallReader_take_number (T:Txt K mg A):FnOk P w K mg base CX0 1 A.f_CallReader_take_number A.d_CallReader_take_number ["self"] (spTN K A):=by
 refine T.CallReader_take_number.fn.okA sc_CallReader_take_number (fun _ _ _ _ H _ Q E hr h=>?_)
 obtain ⟨p,a,i,ns,n,rfl,⟨dx,hp⟩,hs,hn,k⟩:=h
 refine ⟨_,(pss_cons (ps_asg (pe_ix (ixL K) (fldK K (pv 0)) (fldK K (pv 0)) (fun _ _=>rfl)) (pgN (i:=1) sc_CallReader_take_number.nd rfl (Or.inl rfl)))
  (pss_cons (ps_fld (pv 0) (pe_op op_add (fldK K (pv 0)) pe_int) rfl)
  (pss_one (ps_ret (pv 1))))),?_⟩
 refine ⟨_,rfl,p,_,dx,_,_,rfl,.inl hp,T.c_CallReader.cl,T.c_CallReader.n,rfs_c _ _,_,rfl,p,_,dx,_,_,rfl,.inl hp,T.c_CallReader.cl,T.c_CallReader.n,rfs_at _ _,a,_,_,_,rfl,rfl,hs.sq,atI_nat (j:=i) (v:=.int n) (by rw [List.getElem?_map,hn];rfl),fun σ' es=>?_⟩
 obtain rfl:σ'=[some (.ref p),some (.int n)]:=es
 refine ⟨_,rfl,p,_,dx,_,_,rfl,.inl hp,T.c_CallReader.cl,T.c_CallReader.n,rfs_at _ _,_,_,rfl,rfl,_,rfl,p,_,dx,_,rfl,hp,T.c_CallReader.cl,T.c_CallReader.n,(by show 2 < 1000;decide),_,rfl,?_⟩
 dsimp only
 have e1:(i:Int)+1=((i+1:Nat):Int):=by omega
 rw [e1,rfs_put]
 exact k _ (Keep.set hp (fun z=>z) (by simp)) ⟨dx,upd_same⟩
def spTR (K:W.Frag) (A:Ad):Sp:=fun vs H Q _=>∃(p a:Addr) (k m:Nat) (ns:List Int),vs=[.ref p]/\RdAt A H p a k/\Sta K H a (ns.map V.int)/\ns[k]?=some (m:Int)/\k+1+m<=ns.length/\
 ∀H' q,Keep [p] H H'->RdAt A H' p a (k+1+m)->H q=none->H' q=some (.lst (((ns.drop (k+1)).take m).map V.int))->Q (.ref q) H'
theorem sc_CallReader_take_row:FnScope ["self","size","row"] ["self"] (defScope s_CallReader_take_row):=scB
theorem ok_CallReader_take_row (T:Txt K mg A):FnOk P w K mg base CX0 2 A.f_CallReader_take_row A.d_CallReader_take_row ["self"] (spTR K A):=by
 refine T.CallReader_take_row.fn.okA sc_CallReader_take_row (fun _ _ _ _ H _ Q E hr h=>?_)
 obtain ⟨p,a,i,m,ns,rfl,⟨dx,hp⟩,hs,hn,hle,k⟩:=h
 refine ⟨_,(pss_cons (ps_asg (pe_meth0R (pv 0) T.c_CallReader.cl T.m_CallReader_take_number (ok_CallReader_take_number T) (rm hr) T.CallReader_take_number.bi .nil pass0) (pgN (i:=1) sc_CallReader_take_row.nd rfl (Or.inl rfl)))
  (pss_cons (ps_asg (pe_slice (slL K) (fldK K (pv 0)) (po_some (fldK K (pv 0))) (po_some (pe_op op_add (fldK K (pv 0)) (pv 1)))) (pgN (i:=2) sc_CallReader_take_row.nd rfl (Or.inl rfl)))
  (pss_cons (ps_fld (pv 0) (pe_op op_add (fldK K (pv 0)) (pv 1)) rfl)
  (pss_one (ps_ret (pv 2)))))),?_⟩
 refine ⟨_,rfl,p,dx,_,rfl,.inl hp,rfs_no (by decide+kernel),p,a,i,ns,_,rfl,⟨dx,hp⟩,hs,hn,fun H1 k1 ⟨d1,hp1⟩=>fun σ' es=>?_⟩
 obtain rfl:σ'=[some (.ref p),some (.int (m:Int)),none]:=es
 have hs1:=hs.keep k1
 refine ⟨_,rfl,p,_,d1,_,_,rfl,.inl hp1,T.c_CallReader.cl,T.c_CallReader.n,rfs_c _ _,_,rfl,p,_,d1,_,_,rfl,.inl hp1,T.c_CallReader.cl,T.c_CallReader.n,rfs_at _ _,_,rfl,_,rfl,p,_,d1,_,_,rfl,.inl hp1,T.c_CallReader.cl,T.c_CallReader.n,rfs_at _ _,_,rfl,_,_,rfl,rfl,_,rfl,a,_,rfl,hs1.sq,fun q hq=>?_⟩
 have e1:((i+1:Nat):Int)+(m:Int)=((i+1+m:Nat):Int):=by omega
 rw [e1,cut_nat,show i+1+m - (i+1)=m by omega,<-List.map_drop,<-List.map_take]
 refine fun σ' es=>?_
 obtain rfl:σ'=[some (.ref p),some (.int (m:Int)),some (.ref q)]:=es
 have s2:Same H1 (upd H1 q (.lst (((ns.drop (i+1)).take m).map V.int))):=Same.new hq
 have hp2:=s2 _ _ hp1
 have hq2:upd H1 q (.lst (((ns.drop (i+1)).take m).map V.int)) q=some (.lst (((ns.drop (i+1)).take m).map V.int)):=upd_same
 generalize upd H1 q (.lst (((ns.drop (i+1)).take m).map V.int))=H2 at s2 hp2 hq2
 refine ⟨_,rfl,p,_,d1,_,_,rfl,.inl hp2,T.c_CallReader.cl,T.c_CallReader.n,rfs_at _ _,_,rfl,_,_,rfl,rfl,_,rfl,p,_,d1,_,rfl,hp2,T.c_CallReader.cl,T.c_CallReader.n,(by show 2 < 1000;decide),_,rfl,?_⟩
 dsimp only
 rw [e1,rfs_put]
 have k3:Keep [p] H2 (upd H2 p (.ins A.c_CallReader d1 (rfs a (i+1+m)))):=Keep.set hp2 (fun z=>z) (by simp)
 have hqp:q≠p:=fun z=>by rw [z,hp1] at hq;cases hq
 exact k _ q ((k1.trans s2.keep).trans k3) ⟨d1,upd_same⟩ (k1.some (by simp;exact hqp) hq) (k3.at_ hq2 (by simp;exact hqp))
def miss (st:SState) (n:Int):Bool:=if inV (.int n) v_CIRCUIT_CALL_NUMBERS=true then st.circuit.isNone else if inV (.int n) v_MAKER_CALL_NUMBERS=true then st.maker.isNone else if inV (.int n) v_TAKER_CALL_NUMBERS=true then st.taker.isNone else false
def spMiss (A:Ad):Sp:=fun vs H Q _=>∃(p:Addr) (n:Int) (FM FT GT:List Addr) (st:SState),vs=[.ref p,.int n]/\StAt A H p FM FT GT st/\Q (.bl (miss st n)) H
theorem sc_is_missing:FnScope ["state","number"] ["state","number"] (defScope s_is_missing):=scB
theorem ok_is_missing (T:Txt K mg A):FnOk P w K mg base CX0 1 A.f_is_missing A.d_is_missing ["state","number"] (spMiss A):=by
 refine T.is_missing.fn.okA sc_is_missing (fun _ _ _ _ H _ Q E hr h=>?_)
 obtain ⟨p,n,FM,FT,GT,st,rfl,hS,k⟩:=h
 refine ⟨_,(pss_cons (ps_if (pt_cmpR (inS K) (pv 1) (pe_gref rfl T.t_CIRCUIT_CALL_NUMBERS.mg_) (by with_unfolding_all rfl)) (pss_one (ps_ret (pe_cmp (pc_isN (fldK K (pv 0)))))) pss_nil)
  (pss_cons (ps_if (pt_cmpR (inS K) (pv 1) (pe_gref rfl T.t_MAKER_CALL_NUMBERS.mg_) (by with_unfolding_all rfl)) (pss_one (ps_ret (pe_cmp (pc_isN (fldK K (pv 0)))))) pss_nil)
  (pss_cons (ps_if (pt_cmpR (inS K) (pv 1) (pe_gref rfl T.t_TAKER_CALL_NUMBERS.mg_) (by with_unfolding_all rfl)) (pss_one (ps_ret (pe_cmp (pc_isN (fldK K (pv 0)))))) pss_nil)
  (pss_one (ps_ret pe_bl))))),?_⟩
 obtain ⟨dx,vc,vm,vt,e,g1,g2,g3⟩:=hS.ex
 have hc:decide (vc=.non)=st.circuit.isNone:=by
  cases h:st.circuit with
  |none=>rw [h] at g1;exact decide_eq_true g1
  |some c=>rw [h] at g1;obtain ⟨_,z,_⟩:=g1;rw [z];exact decide_eq_false (by intro z;cases z)
 have hm:decide (vm=.non)=st.maker.isNone:=by
  cases h:st.maker with
  |none=>rw [h] at g2;exact decide_eq_true g2.1
  |some c=>rw [h] at g2;obtain ⟨_,_,_,z,_⟩:=g2;rw [z];exact decide_eq_false (by intro z;cases z)
 have ht:decide (vt=.non)=st.taker.isNone:=by
  cases h:st.taker with
  |none=>rw [h] at g3;exact decide_eq_true g3.1
  |some c=>rw [h] at g3;obtain ⟨_,_,_,z,_⟩:=g3;rw [z];exact decide_eq_false (by intro z;cases z)
 unfold miss at k
 refine ⟨_,rfl,_,_,rfl,.inr (T.t_CIRCUIT_CALL_NUMBERS.sq _),rfl,rfl,_,rfl,iteB (fun (c:inV (.int n) v_CIRCUIT_CALL_NUMBERS=true)=>?_) fun (c:inV (.int n) v_CIRCUIT_CALL_NUMBERS=false)=>?_⟩
 ·rw [if_pos c,<-hc] at k
  exact ⟨_,rfl,p,_,dx,_,_,rfl,.inl e,T.c_State.cl,T.c_State.n,sfs_c _ _ _,k⟩
 rw [if_neg (by rw [c];decide)] at k
 refine ⟨_,rfl,_,_,rfl,.inr (T.t_MAKER_CALL_NUMBERS.sq _),rfl,rfl,_,rfl,iteB (fun (c:inV (.int n) v_MAKER_CALL_NUMBERS=true)=>?_) fun (c:inV (.int n) v_MAKER_CALL_NUMBERS=false)=>?_⟩
 ·rw [if_pos c,<-hm] at k
  exact ⟨_,rfl,p,_,dx,_,_,rfl,.inl e,T.c_State.cl,T.c_State.n,sfs_m _ _ _,k⟩
 rw [if_neg (by rw [c];decide)] at k
 refine ⟨_,rfl,_,_,rfl,.inr (T.t_TAKER_CALL_NUMBERS.sq _),rfl,rfl,_,rfl,iteB (fun (c:inV (.int n) v_TAKER_CALL_NUMBERS=true)=>?_) fun (c:inV (.int n) v_TAKER_CALL_NUMBERS=false)=>?_⟩
 ·rw [if_pos c,<-ht] at k
  exact ⟨_,rfl,p,_,dx,_,_,rfl,.inl e,T.c_State.cl,T.c_State.n,sfs_t _ _ _,k⟩
 rw [if_neg (by rw [c];decide)] at k
 exact k
open Hushwork (Answer says making taking step onCircuit may sixteen)
open HushworkNeutral (text nats callOf asked1 natural)
def Q8 (r:List Int):Prop:=∀z∈r,0<=z/\z < 256
def Q0 (r:List Int):Prop:=∀z∈r,0<=z
theorem q8 {r:List Int} (h:(r.all fun (z:Int)=>natural z 8)=true):Q8 r:=fun z hz=>by
 have h1:=List.all_eq_true.mp h z hz
 unfold natural at h1
 rw [Bool.and_eq_true,decide_eq_true_eq,decide_eq_true_eq] at h1
 exact ⟨h1.1,h1.2⟩
theorem q64 {r:List Int} (h:(r.all fun (z:Int)=>natural z 64)=true):Q0 r:=fun z hz=>by
 have h1:=List.all_eq_true.mp h z hz
 unfold natural at h1
 rw [Bool.and_eq_true,decide_eq_true_eq,decide_eq_true_eq] at h1
 exact h1.1
theorem n64 {z:Int} (h:natural z 64=true):0<=z:=by
 unfold natural at h
 rw [Bool.and_eq_true,decide_eq_true_eq,decide_eq_true_eq] at h
 exact h.1
theorem text_len (r:List Int):(text r).length=r.length:=by
 unfold text nats
 rw [List.length_map,List.length_map]
theorem text_V {r:List Int} (h:Q8 r):r.map V.int=bV (text r):=by
 unfold text nats bV
 rw [List.map_map,List.map_map]
 refine List.map_congr_left fun z hz=>?_
 obtain ⟨h1,h2⟩:=h z hz
 show V.int z=V.int (((UInt8.ofNat z.toNat).toNat:Nat):Int)
 rw [UInt8.toNat_ofNat',Nat.mod_eq_of_lt (by omega),Int.toNat_of_nonneg h1]
theorem nats_V {r:List Int} (h:Q0 r):r.map V.int=nV (nats r):=by
 unfold nats nV
 rw [List.map_map]
 refine List.map_congr_left fun z hz=>?_
 show V.int z=V.int ((z.toNat:Nat):Int)
 rw [Int.toNat_of_nonneg (h z hz)]
inductive Form:Int->List Int->List (List Int)->Hushwork.Call->Prop
 |c0 (r1:List Int):Q8 r1->Form 0 [] [r1] (.twice (text r1))
 |c1 (r1 r2 r3:List Int):Q8 r1->Q8 r2->Q8 r3->Form 1 [] [r1,r2,r3] (.mix (text r1) (text r2) (text r3))
 |c2 (n1 n2:Int) (r1 r2 r3 r4:List Int):0<=n1->0<=n2->Q8 r1->Q8 r2->Q8 r3->Q8 r4->Form 2 [n1,n2] [r1,r2,r3,r4] (.table n1.toNat n2.toNat (text r1) (text r2) (text r3) (text r4))
 |c3 (n1 n2:Int) (r1 r2 r3 r4:List Int):0<=n1->0<=n2->Q8 r1->Q8 r2->Q8 r3->Q8 r4->Form 3 [n1,n2] [r1,r2,r3,r4] (.zero n1.toNat n2.toNat (text r1) (text r2) (text r3) (text r4))
 |c4 (n1 n2:Int) (r1 r2 r3 r4:List Int):0<=n1->0<=n2->Q8 r1->Q8 r2->Q8 r3->Q8 r4->Form 4 [n1,n2] [r1,r2,r3,r4] (.one n1.toNat n2.toNat (text r1) (text r2) (text r3) (text r4))
 |c5 (r1:List Int):Q8 r1->Form 5 [] [r1] (.load (text r1))
 |c6:Form 6 [] [] (.shape)
 |c7 (r1 r2:List Int):Q0 r1->Q0 r2->Form 7 [] [r1,r2] (.plain (nats r1) (nats r2))
 |c8 (r1 r2:List Int):Q8 r1->Q8 r2->Form 8 [] [r1,r2] (.begin_ (text r1) (text r2))
 |c9 (n1:Int):0<=n1->Form 9 [n1] [] (.next n1.toNat)
 |c10 (r1:List Int):Q8 r1->Form 10 [] [r1] (.match_ (text r1))
 |c11 (n1 n2:Int):0<=n1->0<=n2->Form 11 [n1,n2] [] (.tell n1.toNat n2.toNat)
 |c12 (n1:Int):0<=n1->Form 12 [n1] [] (.told n1.toNat)
 |c13:Form 13 [] [] (.done)
 |c14 (n1:Int):0<=n1->Form 14 [n1] [] (.hint n1.toNat)
 |c15 (n1:Int) (r1:List Int):0<=n1->Q8 r1->Form 15 [n1] [r1] (.settle n1.toNat (text r1))
 |c16 (r1:List Int):Q8 r1->Form 16 [] [r1] (.open_ (text r1))
 |c17 (n1:Int) (r1:List Int):0<=n1->Q8 r1->Form 17 [n1] [r1] (.give n1.toNat (text r1))
 |c18 (r1:List Int):Q8 r1->Form 18 [] [r1] (.feed (text r1))
 |c19 (n1:Int):0<=n1->Form 19 [n1] [] (.label n1.toNat)
 |c20 (n1 n2:Int):0<=n1->0<=n2->Form 20 [n1,n2] [] (.bit n1.toNat n2.toNat)
theorem form_of {n:Int} {nums:List Int} {rows:List (List Int)} (h:PyWqaeav.shape n=some (nums.length,rows.length)) (hq:asked1 ((n::nums)::rows)=true):∃x,Form n nums rows x/\callOf ((n::nums)::rows)=some x:=by
 unfold PyWqaeav.shape at h
 by_cases e0:n=0
 ·rw [if_pos e0] at h
  subst e0
  injection h with h
  injection h with h1 h2
  match nums,rows,h1,h2,hq with
  |[],[r1],_,_,hq=>
   have hq:(r1.all (fun (z:Int)=>natural z 8))=true:=hq
   exact ⟨_,.c0 r1 (q8 hq),rfl⟩
 rw [if_neg e0] at h
 by_cases e1:n=1
 ·rw [if_pos e1] at h
  subst e1
  injection h with h
  injection h with h1 h2
  match nums,rows,h1,h2,hq with
  |[],[r1,r2,r3],_,_,hq=>
   have hq:(r1.all (fun (z:Int)=>natural z 8)&&r2.all (fun (z:Int)=>natural z 8)&&r3.all (fun (z:Int)=>natural z 8))=true:=hq
   simp only [Bool.and_eq_true] at hq
   exact ⟨_,.c1 r1 r2 r3 (q8 hq.1.1) (q8 hq.1.2) (q8 hq.2),rfl⟩
 rw [if_neg e1] at h
 by_cases e2:n=2
 ·rw [if_pos e2] at h
  subst e2
  injection h with h
  injection h with h1 h2
  match nums,rows,h1,h2,hq with
  |[n1,n2],[r1,r2,r3,r4],_,_,hq=>
   have hq:(natural n1 64&&natural n2 64&&r1.all (fun (z:Int)=>natural z 8)&&r2.all (fun (z:Int)=>natural z 8)&&r3.all (fun (z:Int)=>natural z 8)&&r4.all (fun (z:Int)=>natural z 8))=true:=hq
   simp only [Bool.and_eq_true] at hq
   exact ⟨_,.c2 n1 n2 r1 r2 r3 r4 (n64 hq.1.1.1.1.1) (n64 hq.1.1.1.1.2) (q8 hq.1.1.1.2) (q8 hq.1.1.2) (q8 hq.1.2) (q8 hq.2),rfl⟩
 rw [if_neg e2] at h
 by_cases e3:n=3
 ·rw [if_pos e3] at h
  subst e3
  injection h with h
  injection h with h1 h2
  match nums,rows,h1,h2,hq with
  |[n1,n2],[r1,r2,r3,r4],_,_,hq=>
   have hq:(natural n1 64&&natural n2 64&&r1.all (fun (z:Int)=>natural z 8)&&r2.all (fun (z:Int)=>natural z 8)&&r3.all (fun (z:Int)=>natural z 8)&&r4.all (fun (z:Int)=>natural z 8))=true:=hq
   simp only [Bool.and_eq_true] at hq
   exact ⟨_,.c3 n1 n2 r1 r2 r3 r4 (n64 hq.1.1.1.1.1) (n64 hq.1.1.1.1.2) (q8 hq.1.1.1.2) (q8 hq.1.1.2) (q8 hq.1.2) (q8 hq.2),rfl⟩
 rw [if_neg e3] at h
 by_cases e4:n=4
 ·rw [if_pos e4] at h
  subst e4
  injection h with h
  injection h with h1 h2
  match nums,rows,h1,h2,hq with
  |[n1,n2],[r1,r2,r3,r4],_,_,hq=>
   have hq:(natural n1 64&&natural n2 64&&r1.all (fun (z:Int)=>natural z 8)&&r2.all (fun (z:Int)=>natural z 8)&&r3.all (fun (z:Int)=>natural z 8)&&r4.all (fun (z:Int)=>natural z 8))=true:=hq
   simp only [Bool.and_eq_true] at hq
   exact ⟨_,.c4 n1 n2 r1 r2 r3 r4 (n64 hq.1.1.1.1.1) (n64 hq.1.1.1.1.2) (q8 hq.1.1.1.2) (q8 hq.1.1.2) (q8 hq.1.2) (q8 hq.2),rfl⟩
 rw [if_neg e4] at h
 by_cases e5:n=5
 ·rw [if_pos e5] at h
  subst e5
  injection h with h
  injection h with h1 h2
  match nums,rows,h1,h2,hq with
  |[],[r1],_,_,hq=>
   have hq:(r1.all (fun (z:Int)=>natural z 8))=true:=hq
   exact ⟨_,.c5 r1 (q8 hq),rfl⟩
 rw [if_neg e5] at h
 by_cases e6:n=6
 ·rw [if_pos e6] at h
  subst e6
  injection h with h
  injection h with h1 h2
  match nums,rows,h1,h2,hq with
  |[],[],_,_,hq=>
   have hq:(true)=true:=hq
   exact ⟨_,.c6,rfl⟩
 rw [if_neg e6] at h
 by_cases e7:n=7
 ·rw [if_pos e7] at h
  subst e7
  injection h with h
  injection h with h1 h2
  match nums,rows,h1,h2,hq with
  |[],[r1,r2],_,_,hq=>
   have hq:(r1.all (fun (z:Int)=>natural z 64)&&r2.all (fun (z:Int)=>natural z 64))=true:=hq
   simp only [Bool.and_eq_true] at hq
   exact ⟨_,.c7 r1 r2 (q64 hq.1) (q64 hq.2),rfl⟩
 rw [if_neg e7] at h
 by_cases e8:n=8
 ·rw [if_pos e8] at h
  subst e8
  injection h with h
  injection h with h1 h2
  match nums,rows,h1,h2,hq with
  |[],[r1,r2],_,_,hq=>
   have hq:(r1.all (fun (z:Int)=>natural z 8)&&r2.all (fun (z:Int)=>natural z 8))=true:=hq
   simp only [Bool.and_eq_true] at hq
   exact ⟨_,.c8 r1 r2 (q8 hq.1) (q8 hq.2),rfl⟩
 rw [if_neg e8] at h
 by_cases e9:n=9
 ·rw [if_pos e9] at h
  subst e9
  injection h with h
  injection h with h1 h2
  match nums,rows,h1,h2,hq with
  |[n1],[],_,_,hq=>
   have hq:(natural n1 64)=true:=hq
   exact ⟨_,.c9 n1 (n64 hq),rfl⟩
 rw [if_neg e9] at h
 by_cases e10:n=10
 ·rw [if_pos e10] at h
  subst e10
  injection h with h
  injection h with h1 h2
  match nums,rows,h1,h2,hq with
  |[],[r1],_,_,hq=>
   have hq:(r1.all (fun (z:Int)=>natural z 8))=true:=hq
   exact ⟨_,.c10 r1 (q8 hq),rfl⟩
 rw [if_neg e10] at h
 by_cases e11:n=11
 ·rw [if_pos e11] at h
  subst e11
  injection h with h
  injection h with h1 h2
  match nums,rows,h1,h2,hq with
  |[n1,n2],[],_,_,hq=>
   have hq:(natural n1 64&&natural n2 64)=true:=hq
   simp only [Bool.and_eq_true] at hq
   exact ⟨_,.c11 n1 n2 (n64 hq.1) (n64 hq.2),rfl⟩
 rw [if_neg e11] at h
 by_cases e12:n=12
 ·rw [if_pos e12] at h
  subst e12
  injection h with h
  injection h with h1 h2
  match nums,rows,h1,h2,hq with
  |[n1],[],_,_,hq=>
   have hq:(natural n1 64)=true:=hq
   exact ⟨_,.c12 n1 (n64 hq),rfl⟩
 rw [if_neg e12] at h
 by_cases e13:n=13
 ·rw [if_pos e13] at h
  subst e13
  injection h with h
  injection h with h1 h2
  match nums,rows,h1,h2,hq with
  |[],[],_,_,hq=>
   have hq:(true)=true:=hq
   exact ⟨_,.c13,rfl⟩
 rw [if_neg e13] at h
 by_cases e14:n=14
 ·rw [if_pos e14] at h
  subst e14
  injection h with h
  injection h with h1 h2
  match nums,rows,h1,h2,hq with
  |[n1],[],_,_,hq=>
   have hq:(natural n1 64)=true:=hq
   exact ⟨_,.c14 n1 (n64 hq),rfl⟩
 rw [if_neg e14] at h
 by_cases e15:n=15
 ·rw [if_pos e15] at h
  subst e15
  injection h with h
  injection h with h1 h2
  match nums,rows,h1,h2,hq with
  |[n1],[r1],_,_,hq=>
   have hq:(natural n1 64&&r1.all (fun (z:Int)=>natural z 8))=true:=hq
   simp only [Bool.and_eq_true] at hq
   exact ⟨_,.c15 n1 r1 (n64 hq.1) (q8 hq.2),rfl⟩
 rw [if_neg e15] at h
 by_cases e16:n=16
 ·rw [if_pos e16] at h
  subst e16
  injection h with h
  injection h with h1 h2
  match nums,rows,h1,h2,hq with
  |[],[r1],_,_,hq=>
   have hq:(r1.all (fun (z:Int)=>natural z 8))=true:=hq
   exact ⟨_,.c16 r1 (q8 hq),rfl⟩
 rw [if_neg e16] at h
 by_cases e17:n=17
 ·rw [if_pos e17] at h
  subst e17
  injection h with h
  injection h with h1 h2
  match nums,rows,h1,h2,hq with
  |[n1],[r1],_,_,hq=>
   have hq:(natural n1 64&&r1.all (fun (z:Int)=>natural z 8))=true:=hq
   simp only [Bool.and_eq_true] at hq
   exact ⟨_,.c17 n1 r1 (n64 hq.1) (q8 hq.2),rfl⟩
 rw [if_neg e17] at h
 by_cases e18:n=18
 ·rw [if_pos e18] at h
  subst e18
  injection h with h
  injection h with h1 h2
  match nums,rows,h1,h2,hq with
  |[],[r1],_,_,hq=>
   have hq:(r1.all (fun (z:Int)=>natural z 8))=true:=hq
   exact ⟨_,.c18 r1 (q8 hq),rfl⟩
 rw [if_neg e18] at h
 by_cases e19:n=19
 ·rw [if_pos e19] at h
  subst e19
  injection h with h
  injection h with h1 h2
  match nums,rows,h1,h2,hq with
  |[n1],[],_,_,hq=>
   have hq:(natural n1 64)=true:=hq
   exact ⟨_,.c19 n1 (n64 hq),rfl⟩
 rw [if_neg e19] at h
 by_cases e20:n=20
 ·rw [if_pos e20] at h
  subst e20
  injection h with h
  injection h with h1 h2
  match nums,rows,h1,h2,hq with
  |[n1,n2],[],_,_,hq=>
   have hq:(natural n1 64&&natural n2 64)=true:=hq
   simp only [Bool.and_eq_true] at hq
   exact ⟨_,.c20 n1 n2 (n64 hq.1) (n64 hq.2),rfl⟩
 rw [if_neg e20] at h
 cases h
def f16 (n:Int):Nat:=if n=0 then 1 else if n=1 then 3 else if n=2 then 4 else if n=3 then 4 else if n=4 then 3 else if n=8 then 2 else if n=15 then 1 else if n=16 then 1 else if n=17 then 1 else 0
theorem forms_look {n:Int} {nums:List Int} {rows:List (List Int)} {x:Hushwork.Call} (f:Form n nums rows x):lookF v_FORMS n=some [.int (nums.length:Int),.int (rows.length:Int),.int (f16 n:Int)]:=by
 cases f <;> rfl
theorem six_any (rs:List (List Int)):sixteen (rs.map text)=!rs.any (fun r=>decide (r.length≠16)):=by
 unfold sixteen
 induction rs with
 |nil=>rfl
 |cons a r ih=>
  rw [List.map_cons,List.all_cons,ih,List.any_cons,text_len]
  by_cases h:a.length=16
  ·rw [beq_iff_eq.mpr h,decide_eq_false (by simp [h])]
   rfl
  ·rw [beq_eq_false_iff_ne.mpr h,decide_eq_true h]
   rfl
section
variable {st:SState} {n:Int} {nums:List Int} {rows:List (List Int)} {x:Hushwork.Call}
theorem onC {st:SState} {c:Hushwork.Call} (h:step st c=(match st.circuit with|none=>(st,says (-8))|some y=>onCircuit st y c)):(st.circuit=none->step st c=(st,says (-8)))/\∀y,st.circuit=some y->step st c=onCircuit st y c:=⟨fun e=>by rw [h,e],fun y e=>by rw [h,e]⟩
theorem onM {st:SState} {c:Hushwork.Call} (h:step st c=(match st.maker with|none=>(st,says (-8))|some m=>(⟨st.circuit,some (making m c).1,st.taker⟩,(making m c).2))):(st.maker=none->step st c=(st,says (-8)))/\∀m,st.maker=some m->step st c=(⟨st.circuit,some (making m c).1,st.taker⟩,(making m c).2):=⟨fun e=>by rw [h,e],fun y e=>by rw [h,e]⟩
theorem onT {st:SState} {c:Hushwork.Call} (h:step st c=(match st.taker with|none=>(st,says (-8))|some m=>(⟨st.circuit,st.maker,some (taking m c).1⟩,(taking m c).2))):(st.taker=none->step st c=(st,says (-8)))/\∀m,st.taker=some m->step st c=(⟨st.circuit,st.maker,some (taking m c).1⟩,(taking m c).2):=⟨fun e=>by rw [h,e],fun y e=>by rw [h,e]⟩
theorem isN {α:Type} {o:Option α} (h:o.isNone=true):o=none:=by cases o with|none=>rfl|some a=>cases h
theorem isS {α:Type} {o:Option α} (h:o.isNone=false):∃a,o=some a:=by cases o with|none=>cases h|some a=>exact ⟨a,rfl⟩
theorem step_miss (f:Form n nums rows x) (h:miss st n=true):step st x=(st,says (-8)):=by
 cases f with
 |c0 r1 h1=>exact nomatch (show false=true from h)
 |c1 r1 r2 r3 h1 h2 h3=>exact nomatch (show false=true from h)
 |c2 n1 n2 r1 r2 r3 r4 h1 h2 h3 h4 h5 h6=>exact nomatch (show false=true from h)
 |c3 n1 n2 r1 r2 r3 r4 h1 h2 h3 h4 h5 h6=>exact nomatch (show false=true from h)
 |c4 n1 n2 r1 r2 r3 r4 h1 h2 h3 h4 h5 h6=>exact nomatch (show false=true from h)
 |c5 r1 h1=>exact nomatch (show false=true from h)
 |c6=>exact (onC rfl).1 (isN (show st.circuit.isNone=true from h))
 |c7 r1 r2 h1 h2=>exact (onC rfl).1 (isN (show st.circuit.isNone=true from h))
 |c8 r1 r2 h1 h2=>exact (onC rfl).1 (isN (show st.circuit.isNone=true from h))
 |c9 n1 h1=>exact (onM rfl).1 (isN (show st.maker.isNone=true from h))
 |c10 r1 h1=>exact (onM rfl).1 (isN (show st.maker.isNone=true from h))
 |c11 n1 n2 h1 h2=>exact (onM rfl).1 (isN (show st.maker.isNone=true from h))
 |c12 n1 h1=>exact (onM rfl).1 (isN (show st.maker.isNone=true from h))
 |c13=>exact (onM rfl).1 (isN (show st.maker.isNone=true from h))
 |c14 n1 h1=>exact (onM rfl).1 (isN (show st.maker.isNone=true from h))
 |c15 n1 r1 h1 h2=>exact (onM rfl).1 (isN (show st.maker.isNone=true from h))
 |c16 r1 h1=>exact (onC rfl).1 (isN (show st.circuit.isNone=true from h))
 |c17 n1 r1 h1 h2=>exact (onT rfl).1 (isN (show st.taker.isNone=true from h))
 |c18 r1 h1=>exact (onT rfl).1 (isN (show st.taker.isNone=true from h))
 |c19 n1 h1=>exact (onT rfl).1 (isN (show st.taker.isNone=true from h))
 |c20 n1 n2 h1 h2=>exact (onT rfl).1 (isN (show st.taker.isNone=true from h))
theorem stM {st:SState} {m:SMaker} (h:st.maker=some m):(⟨st.circuit,some m,st.taker⟩:SState)=st:=by cases st;cases h;rfl
theorem stT {st:SState} {m:STaker} (h:st.taker=some m):(⟨st.circuit,st.maker,some m⟩:SState)=st:=by cases st;cases h;rfl
theorem step_bad (f:Form n nums rows x) (hm:miss st n=false) (h:((rows.take (f16 n)).any fun r=>decide (r.length≠16))=true):step st x=(st,says (-1)):=by
 cases f with
 |c0 r1 h1=>
  have h6:=six_any [r1]
  rw [show ([r1].any fun r=>decide (r.length≠16))=true from h] at h6
  have h6:sixteen [text r1]=false:=h6
  show (st,may (sixteen [text r1]) _)=_
  rw [h6]
  rfl
 |c1 r1 r2 r3 h1 h2 h3=>
  have h6:=six_any [r1,r2,r3]
  rw [show ([r1,r2,r3].any fun r=>decide (r.length≠16))=true from h] at h6
  have h6:sixteen [text r1,text r2,text r3]=false:=h6
  show (st,may (sixteen [text r1,text r2,text r3]) _)=_
  rw [h6]
  rfl
 |c2 n1 n2 r1 r2 r3 r4 h1 h2 h3 h4 h5 h6=>
  have h6:=six_any [r1,r2,r3,r4]
  rw [show ([r1,r2,r3,r4].any fun r=>decide (r.length≠16))=true from h] at h6
  have h6:sixteen [text r1,text r2,text r3,text r4]=false:=h6
  show (st,may (sixteen [text r1,text r2,text r3,text r4]&&_) _)=_
  rw [h6]
  rfl
 |c3 n1 n2 r1 r2 r3 r4 h1 h2 h3 h4 h5 h6=>
  have h6:=six_any [r1,r2,r3,r4]
  rw [show ([r1,r2,r3,r4].any fun r=>decide (r.length≠16))=true from h] at h6
  have h6:sixteen [text r1,text r2,text r3,text r4]=false:=h6
  show (st,may (sixteen [text r1,text r2,text r3,text r4]&&_) _)=_
  rw [h6]
  rfl
 |c4 n1 n2 r1 r2 r3 r4 h1 h2 h3 h4 h5 h6=>
  have h6:=six_any [r1,r2,r3]
  rw [show ([r1,r2,r3].any fun r=>decide (r.length≠16))=true from h] at h6
  have h6:sixteen [text r1,text r2,text r3]=false:=h6
  show (st,may (sixteen [text r1,text r2,text r3]&&_) _)=_
  rw [h6]
  rfl
 |c5 r1 h1=>exact nomatch (show false=true from h)
 |c6=>exact nomatch (show false=true from h)
 |c7 r1 r2 h1 h2=>exact nomatch (show false=true from h)
 |c8 r1 r2 h1 h2=>
  have h6:=six_any [r1,r2]
  rw [show ([r1,r2].any fun r=>decide (r.length≠16))=true from h] at h6
  have h6:sixteen [text r1,text r2]=false:=h6
  obtain ⟨y,hy⟩:=isS (show st.circuit.isNone=false from hm)
  rw [(onC rfl).2 y hy]
  show (if sixteen [text r1,text r2]=true then _ else _)=_
  rw [if_neg (by rw [h6];decide)]
 |c9 n1 h1=>exact nomatch (show false=true from h)
 |c10 r1 h1=>exact nomatch (show false=true from h)
 |c11 n1 n2 h1 h2=>exact nomatch (show false=true from h)
 |c12 n1 h1=>exact nomatch (show false=true from h)
 |c13=>exact nomatch (show false=true from h)
 |c14 n1 h1=>exact nomatch (show false=true from h)
 |c15 n1 r1 h1 h2=>
  have h6:=six_any [r1]
  rw [show ([r1].any fun r=>decide (r.length≠16))=true from h] at h6
  have h6:sixteen [text r1]=false:=h6
  obtain ⟨y,hy⟩:=isS (show st.maker.isNone=false from hm)
  have hl:(text r1).length≠16:=by
   intro z
   unfold sixteen at h6
   simp [z] at h6
  have e:making y (.settle n1.toNat (text r1))=(y,says (-1)):=by
   show (y,if (text r1).length≠16 then _ else _)=_
   rw [if_pos hl]
  rw [(onM rfl).2 y hy,e,stM hy]
 |c16 r1 h1=>
  have h6:=six_any [r1]
  rw [show ([r1].any fun r=>decide (r.length≠16))=true from h] at h6
  have h6:sixteen [text r1]=false:=h6
  obtain ⟨y,hy⟩:=isS (show st.circuit.isNone=false from hm)
  rw [(onC rfl).2 y hy]
  show (if sixteen [text r1]=true then _ else _)=_
  rw [if_neg (by rw [h6];decide)]
 |c17 n1 r1 h1 h2=>
  have h6:=six_any [r1]
  rw [show ([r1].any fun r=>decide (r.length≠16))=true from h] at h6
  have h6:sixteen [text r1]=false:=h6
  obtain ⟨y,hy⟩:=isS (show st.taker.isNone=false from hm)
  have hl:(text r1).length≠16:=by
   intro z
   unfold sixteen at h6
   simp [z] at h6
  have e:taking y (.give n1.toNat (text r1))=(y,says (-1)):=by
   show (if (text r1).length≠16 then _ else _)=_
   rw [if_pos hl]
  rw [(onT rfl).2 y hy,e,stT hy]
 |c18 r1 h1=>exact nomatch (show false=true from h)
 |c19 n1 h1=>exact nomatch (show false=true from h)
 |c20 n1 n2 h1 h2=>exact nomatch (show false=true from h)
end
theorem EndsS.later {A:Ad} {H H5:Hp} {p:Addr} {FM FT GT:List Addr} {Q:VK} {z:SState×Answer} (s:Same H H5) (k:EndsS A H p FM FT GT Q z):EndsS A H5 p FM FT GT Q z:=
 fun H' q FM' FT' GT' kk hS hb hq e=>k H' q FM' FT' GT' (s.keep.trans kk) hS (fun b h=>(hb b h).imp id fun z=>s.free z) (s.free hq) e
section
variable {A:Ad} {H:Hp} {p:Addr} {FM FT GT:List Addr} {Q:VK} {st:SState} {dx:Addr} {vc vm vt:V}
theorem EndsS.toM {mp l t:Addr} {z:SMaker×Answer} (hS:StAt A H p [l,t] FT GT st) (he:H p=some (.ins A.c_State dx (sfs vc (.ref mp) vt))) (g1:CirO A H vc st.circuit) (g3:TakO A H vt FT GT st.taker)
  (k:EndsS A H p [l,t] FT GT Q (⟨st.circuit,some z.1,st.taker⟩,z.2)):EndsM A H mp l t Q z:=fun H' q kk hM hq e=>by
 have nd:=hS.nd
 have hnp:=(List.nodup_cons.mp nd).1
 have hd:=(List.nodup_append.mp (List.nodup_cons.mp nd).2).2.2
 refine k H' q [l,t] FT GT (kk.mono fun b hb=>List.mem_cons_of_mem _ (List.mem_append_left _ hb)) ⟨⟨dx,vc,.ref mp,vt,kk.at_ he fun z=>hnp (List.mem_append_left _ z),g1.keep kk,⟨mp,l,t,rfl,rfl,hM⟩,g3.keep kk fun b hb z=>hd b z b hb rfl⟩,nd⟩ (fun b hb=>.inl hb) hq e
theorem EndsS.toT {tp l pc:Addr} {z:STaker×Answer} (hS:StAt A H p FM [tp,l] [pc] st) (he:H p=some (.ins A.c_State dx (sfs vc vm (.ref tp)))) (g1:CirO A H vc st.circuit) (g2:MakO A H vm FM st.maker)
  (k:EndsS A H p FM [tp,l] [pc] Q (⟨st.circuit,st.maker,some z.1⟩,z.2)):EndsT A H tp l pc Q z:=fun H' q pc' kk hpc hT hq e=>by
 have nd:=hS.nd
 have hnp:=(List.nodup_cons.mp nd).1
 have hn2:=List.nodup_append.mp (List.nodup_cons.mp nd).2
 have hd:=hn2.2.2
 have hin:∀b∈([tp,l]:List Addr),b∈FM++([tp,l]++[pc]):=fun b hb=>List.mem_append_right _ (List.mem_append_left _ hb)
 have hpc':pc'≠p/\(∀b∈FM,b≠pc')/\pc'≠tp/\pc'≠l:=by
  rcases hpc with r|r
  ·rw [r]
   refine ⟨fun z=>hnp (by rw [<-z];simp),fun b hb z=>hd b hb pc (by simp) z,?_,?_⟩
   ·have h9:=hn2.2.1
    simp at h9
    exact fun z=>h9.1.2 z.symm
   ·have h9:=hn2.2.1
    simp at h9
    exact fun z=>h9.2 z.symm
  ·have nn:∀b∈p::(FM++([tp,l]++[pc])),b≠pc':=fun b hb z=>by
    obtain ⟨o,ho⟩:=hS.there b hb
    rw [z,r] at ho
    cases ho
   exact ⟨(nn p (List.mem_cons_self ..)).symm,fun b hb=>nn b (List.mem_cons_of_mem _ (List.mem_append_left _ hb)),(nn tp (by simp)).symm,(nn l (by simp)).symm⟩
 refine k H' q FM [tp,l] [pc'] (kk.mono fun b hb=>List.mem_cons_of_mem _ (List.mem_append_right _ hb)) ⟨⟨dx,vc,vm,.ref tp,kk.at_ he fun z=>hnp (hin _ z),g1.keep kk,g2.keep kk fun b hb z=>hd b hb b (List.mem_append_left _ z) rfl,⟨tp,l,pc',rfl,rfl,rfl,hT⟩⟩,?_⟩ (fun b hb=>?_) hq e
 ·refine List.nodup_cons.mpr ⟨fun z=>?_,List.nodup_append.mpr ⟨hn2.1,?_,fun a ha b hb z=>?_⟩⟩
  ·rcases List.mem_append.mp z with z|z
   ·exact hnp (List.mem_append_left _ z)
   ·rcases List.mem_append.mp z with z|z
    ·exact hnp (hin _ z)
    ·exact hpc'.1 (List.mem_singleton.mp z).symm
  ·have h9:=hn2.2.1
   simp at h9 ⊢
   exact ⟨⟨h9.1.1,hpc'.2.2.1.symm⟩,hpc'.2.2.2.symm⟩
  ·rcases List.mem_append.mp hb with hb|hb
   ·exact hd a ha b (List.mem_append_left _ hb) z
   ·rw [List.mem_singleton.mp hb] at z
    exact hpc'.2.1 a ha z
 ·rcases List.mem_append.mp hb with hb|hb
  ·exact .inl (List.mem_append_left _ hb)
  ·rcases List.mem_append.mp hb with hb|hb
   ·exact .inl (hin _ hb)
   ·rw [List.mem_singleton.mp hb]
    rcases hpc with r|r
    ·rw [r]
     exact .inl (by simp)
    ·exact .inr r
end
theorem RowsOff.mono {F G:List Addr} {H:Hp} {a:Addr} {rs:List (List V)} (h:RowsOff F H a rs) (hs:∀b∈G,b∈F):RowsOff G H a rs:=
 let ⟨h0,as,h1,h2,h3,h4⟩:=h
 ⟨fun z=>h0 (hs _ z),as,h1,h2,fun x hx z=>h3 x hx (hs _ z),h4⟩
theorem len16 {rs:List (List Int)} (h:(rs.any fun r=>decide (r.length≠16))=false) {r:List Int} (hr:r∈rs):(text r).length=16:=by
 rw [text_len]
 have h1:=List.any_eq_false.mp h r hr
 simpa using h1
def spAO (A:Ad):Sp:=fun vs H Q _=>∃(p an ar:Addr) (n:Int) (FM FT GT:List Addr) (st:SState) (nums:List Int) (rows:List (List Int)) (x:Hushwork.Call),vs=[.ref p,.int n,.ref an,.ref ar]/\StAt A H p FM FT GT st/\Form n nums rows x/\H an=some (.lst (nums.map V.int))/\rows.length<=4/\
 RowsOff (p::(FM++FT)) H ar (rows.map fun r=>r.map V.int)/\EndsS A H p FM FT GT Q (step st x)
theorem sc_answer_of:FnScope ["state","number","numbers","rows","sixteens","row"] ["state","number","numbers","rows"] (defScope s_answer_of):=scB
theorem ok_answer_of (T:Txt K mg A):FnOk P w K mg base CX0 12 A.f_answer_of A.d_answer_of ["state","number","numbers","rows"] (spAO A):=by
 refine T.answer_of.fn.okA sc_answer_of (fun _ _ _ _ H _ Q E hr h=>?_)
 obtain ⟨p,an,ar,n,FM,FT,GT,st,nums,rows,x,rfl,hS,hF,hn,hr4,hR,k⟩:=h
 refine ⟨_,(pss_cons (ps_if (truthK K (pe_call (ok_is_missing T) (rm hr) rfl T.is_missing.mg_ T.is_missing.fn.kp T.is_missing.bi .nil pass0 (pa_cons (pv 0) (pa_cons (pv 1) pa_nil))) (fun _=>rfl)) (pss_one (ps_ret (pe_call (ok_refusal T) (rm hr) rfl T.refusal.mg_ T.refusal.fn.kp T.refusal.bi .nil pass0 (pa_cons (pe_un un_neg pe_int) pa_nil)))) pss_nil)
  (pss_cons (ps_asg (pe_slice (slL K) (pv 3) po_none (po_some (pe_ix (ixT K) (kgetK K (pe_gref rfl T.t_FORMS.mg_) (pv 1) (fun _ _=>rfl)) pe_int (fun _ _=>rfl)))) (pgN (i:=4) sc_answer_of.nd rfl (Or.inl rfl)))
  (pss_cons (ps_if (truthK K (pe_callB (anyS K) (by rfl) T.n_any PyProof.Rows.boot_any (pa_cons (pe_lc (own:=[("row",5)]) rfl sc_answer_of.nd (pi_list (pv 4)) (blkOk_by rfl) (fun _ _ _ _ _=>(pg_name (i:=5) sc_answer_of.nd rfl (Or.inl rfl))) (fun _ _ _ _ _=>pts_nil) (fun _ _ _ _ _=>(pe_cmpR op_ne (pe_callB (lenS K) (by rfl) T.n_len PySem.boot_len (pa_cons (pv 5) pa_nil)) (pe_gint rfl T.i_SIXTEEN) (nomark _)))) pa_nil)) (fun _=>rfl)) (pss_one (ps_ret (pe_call (ok_refusal T) (rm hr) rfl T.refusal.mg_ T.refusal.fn.kp T.refusal.bi .nil pass0 (pa_cons (pe_un un_neg pe_int) pa_nil)))) pss_nil)
  (pss_cons (ps_if (pt_cmpR op_le (pv 1) (pe_gint rfl T.i_LAST_GATE_CALL) (nomark _)) (pss_one (ps_ret (pe_call (ok_gate_answer T) (rm hr) rfl T.gate_answer.mg_ T.gate_answer.fn.kp T.gate_answer.bi .nil pass0 (pa_cons (pv 1) (pa_cons (pv 2) (pa_cons (pv 3) pa_nil)))))) pss_nil)
  (pss_cons (ps_if (pt_cmpR (inS K) (pv 1) (pe_gref rfl T.t_MAKER_CALL_NUMBERS.mg_) (by with_unfolding_all rfl)) (pss_one (ps_ret (pe_call (ok_maker_answer T) (rm hr) rfl T.maker_answer.mg_ T.maker_answer.fn.kp T.maker_answer.bi .nil pass0 (pa_cons (fldK K (pv 0)) (pa_cons (pv 1) (pa_cons (pv 2) (pa_cons (pv 3) pa_nil))))))) pss_nil)
  (pss_cons (ps_if (pt_cmpR (inS K) (pv 1) (pe_gref rfl T.t_TAKER_CALL_NUMBERS.mg_) (by with_unfolding_all rfl)) (pss_one (ps_ret (pe_call (ok_taker_answer T) (rm hr) rfl T.taker_answer.mg_ T.taker_answer.fn.kp T.taker_answer.bi .nil pass0 (pa_cons (fldK K (pv 0)) (pa_cons (pv 1) (pa_cons (pv 2) (pa_cons (pv 3) pa_nil))))))) pss_nil)
  (pss_one (ps_ret (pe_call (ok_circuit_answer T) (rm hr) rfl T.circuit_answer.mg_ T.circuit_answer.fn.kp T.circuit_answer.bi .nil pass0 (pa_cons (pv 0) (pa_cons (pv 1) (pa_cons (pv 3) pa_nil)))))))))))),?_⟩
 refine ⟨_,rfl,_,rfl,p,n,FM,FT,GT,st,rfl,hS,_,rfl,iteB (fun cm=>?_) fun cm=>?_⟩
 ·rw [step_miss hF cm] at k
  exact ⟨_,rfl,_,rfl,fun H' q s1 hq e=>EndsS.stay hS k H' q s1 hq (by rw [<-rep_says];exact e)⟩
 obtain ⟨kvs,dk,pr⟩:=T.t_FORMS.dk
 obtain ⟨tf,et,hsf⟩:=(lookF_of pr n).2 _ (forms_look hF)
 obtain ⟨hoff,as,ha1,ha2,ha3,ha4⟩:=id hR
 refine ⟨_,rfl,_,rfl,_,kvs,_,_,rfl,dk,rfl,et,tf,_,_,_,rfl,rfl,hsf _,rfl,_,rfl,ar,_,rfl,SqL.of ha1,fun sl hsl=>?_⟩
 have hcut:cutV (as.map V.ref) none (some ((f16 n:Nat):Int))=(as.take (f16 n)).map V.ref:=by
  have h9:=cut_nat (xs:=as.map V.ref) (i:=0) (j:=f16 n)
  have h8:HT.sIx (as.map V.ref).length 0 none=HT.sIx (as.map V.ref).length 0 (some ((0:Nat):Int)):=by
   unfold HT.sIx
   simp
  rw [List.map_take]
  unfold cutV at h9 ⊢
  rw [h8]
  exact h9
 rw [hcut]
 refine fun σ' es=>?_
 obtain rfl:σ'=[some (.ref p),some (.int n),some (.ref an),some (.ref ar),some (.ref sl),none]:=es
 have s1:Same H (upd H sl (.lst ((as.take (f16 n)).map V.ref))):=Same.new hsl
 have hsl1:upd H sl (.lst ((as.take (f16 n)).map V.ref)) sl=some (.lst ((as.take (f16 n)).map V.ref)):=upd_same
 generalize upd H sl (.lst ((as.take (f16 n)).map V.ref))=H1 at s1 hsl1
 refine ⟨_,rfl,sl,rfl,⟨_,SqL.of hsl1⟩,fun D hD=>?_⟩
 have hslD:sl≠D:=ne_of_none hsl1 hD
 have hal:as.length=rows.length:=by rw [ha2,List.length_map]
 refine lc_list (K:=K) (a:=sl) (xs:=(as.take (f16 n)).map V.ref) (fun i H'=>H'=upd H1 D (.lst ((((rows.take (f16 n)).map fun r=>decide (r.length≠16)).map V.bl).take i))) rfl (fun i H' _ e=>by rw [e];exact SqL.of (by rw [upd_ne hslD];exact hsl1)) ?_ ?_
 ·rintro i u H' hu rfl
  obtain ⟨a,ha,rfl⟩:=refs_get hu
  have hif:i < f16 n:=by
   have:=(List.getElem?_eq_some_iff.mp ha).1
   rw [List.length_take] at this
   omega
  rw [List.getElem?_take_of_lt hif] at ha
  have hi:i < rows.length:=by rw [<-hal];exact (List.getElem?_eq_some_iff.mp ha).1
  have hri:rows[i]?=some rows[i]:=List.getElem?_eq_getElem hi
  have haH:=ha4 i a (rows[i].map V.int) ha (by rw [List.getElem?_map,hri];rfl)
  have haD:a≠D:=fun z=>by rw [z] at haH;rw [s1 _ _ haH] at hD;cases hD
  refine ⟨rfl,_,rfl,a,_,rfl,.inl (SqL.of (by rw [upd_ne haD];exact s1 _ _ haH)),rfl,_,upd_same,sz (m:=4) (by rw [List.length_take,List.length_map,List.length_map,List.length_take];omega),?_⟩
  have e:(((rows.take (f16 n)).map fun r=>decide (r.length≠16)).map V.bl)[i]?=some (.bl (decide (rows[i].length≠16))):=by
   rw [List.getElem?_map,List.getElem?_map,List.getElem?_take_of_lt hif,hri]
   rfl
  have e2:(!decide (V.int ((rows[i].map V.int).length:Nat)=V.int 16))=decide (rows[i].length≠16):=by
   rw [List.length_map]
   by_cases h:rows[i].length=16
   ·rw [h]
    rfl
   ·rw [decide_eq_true h,decide_eq_false (fun z=>h (by injection z with z;omega))]
    rfl
  rw [upd_upd,take_snoc e]
  exact congrArg (fun z=>upd H1 D (.lst ((((rows.take (f16 n)).map fun r=>decide (r.length≠16)).map V.bl).take i++[V.bl z]))) e2
 rintro H' rfl
 rw [List.take_of_length_le (by rw [List.length_map,List.length_map,List.length_map,List.length_take,List.length_take,hal];exact Nat.le_refl _)]
 have s2:Same H (upd H1 D (.lst (((rows.take (f16 n)).map fun r=>decide (r.length≠16)).map V.bl))):=Same.tn s1 hD _
 refine ⟨D,_,rfl,SqL.of upd_same,_,rfl,?_⟩
 have e2:((rows.take (f16 n)).map fun r=>decide (r.length≠16)).any id=(rows.take (f16 n)).any fun r=>decide (r.length≠16):=by rw [List.any_map];rfl
 rw [e2]
 generalize upd H1 D (.lst (((rows.take (f16 n)).map fun r=>decide (r.length≠16)).map V.bl))=H2 at s2
 refine iteB (fun c6=>?_) fun c6=>?_
 ·rw [step_bad hF cm c6] at k
  exact ⟨_,rfl,_,rfl,fun H' q s3 hq e=>EndsS.stay hS k H' q (s2.trans s3) (s2.free hq) (by rw [<-rep_says];exact e)⟩
 have hS2:=hS.same s2
 have hR2:=hR.keep (s2.keep (F:=p::(FM++FT)))
 have hn2:=s2 _ _ hn
 have k2:=k.later s2
 obtain ⟨dx,vc,vm,vt,e,g1,g2,g3⟩:=hS2.ex
 clear hR ha1 ha2 ha3 ha4 hal hcut k hS hn hsl hsl1 hD hslD s1 e2 hsf et pr dk
 cases hF with
 |c0 r1 h1=>
  have hR2:RowsOff (p::(FM++FT)) H2 ar [r1.map V.int]:=hR2
  rw [text_V h1] at hR2
  have l1:=len16 (r:=r1) c6 (by simp [f16])
  have h6:sixteen [text r1]=true:=by unfold sixteen;simp [l1]
  have ha:Hushwork.pure_ (.twice (text r1))=⟨0,Hush.twice (text r1),[]⟩:=by
   show may (sixteen [text r1]) _=_
   rw [h6]
   rfl
  exact ⟨_,rfl,_,_,rfl,rfl,_,rfl,_,rfl,_,rfl,_,rfl,_,an,ar,_,rfl,.inl ⟨rfl,text r1,hR2.rows,l1,ha⟩,EndsS.stay hS2 k2⟩
 |c1 r1 r2 r3 h1 h2 h3=>
  have hR2:RowsOff (p::(FM++FT)) H2 ar [r1.map V.int,r2.map V.int,r3.map V.int]:=hR2
  rw [text_V h1,text_V h2,text_V h3] at hR2
  have l1:=len16 (r:=r1) c6 (by simp [f16])
  have l2:=len16 (r:=r2) c6 (by simp [f16])
  have l3:=len16 (r:=r3) c6 (by simp [f16])
  have h6:sixteen [text r1,text r2,text r3]=true:=by unfold sixteen;simp [l1,l2,l3]
  have ha:Hushwork.pure_ (.mix (text r1) (text r2) (text r3))=⟨0,Hush.mix (text r1) (text r2) (text r3),[]⟩:=by
   show may (sixteen [text r1,text r2,text r3]) _=_
   rw [h6]
   rfl
  exact ⟨_,rfl,_,_,rfl,rfl,_,rfl,_,rfl,_,rfl,_,rfl,_,an,ar,_,rfl,.inr (.inl ⟨rfl,text r1,text r2,text r3,hR2.rows,l1,l2,l3,ha⟩),EndsS.stay hS2 k2⟩
 |c2 n1 n2 r1 r2 r3 r4 h1 h2 h3 h4 h5 h6=>
  have hR2:RowsOff (p::(FM++FT)) H2 ar [r1.map V.int,r2.map V.int,r3.map V.int,r4.map V.int]:=hR2
  rw [text_V h3,text_V h4,text_V h5,text_V h6] at hR2
  have hn2:H2 an=some (.lst [.int n1,.int n2]):=hn2
  rw [<-Int.toNat_of_nonneg h1] at hn2
  rw [<-Int.toNat_of_nonneg h2] at hn2
  have l1:=len16 (r:=r1) c6 (by simp [f16])
  have l2:=len16 (r:=r2) c6 (by simp [f16])
  have l3:=len16 (r:=r3) c6 (by simp [f16])
  have l4:=len16 (r:=r4) c6 (by simp [f16])
  have h6:sixteen [text r1,text r2,text r3,text r4]=true:=by unfold sixteen;simp [l1,l2,l3,l4]
  have ha:Hushwork.pure_ (.table n1.toNat n2.toNat (text r1) (text r2) (text r3) (text r4))=if n1.toNat < 16 then ⟨0,Hush.table (text r2) (text r3) (text r4) (text r1) n1.toNat n2.toNat,[]⟩ else says (-1):=by
   show may (sixteen [text r1,text r2,text r3,text r4]&&decide (n1.toNat < 16)) _=_
   rw [h6]
   by_cases hc:n1.toNat < 16
   ·rw [if_pos hc,decide_eq_true hc]
    rfl
   ·rw [if_neg hc,decide_eq_false hc]
    rfl
  exact ⟨_,rfl,_,_,rfl,rfl,_,rfl,_,rfl,_,rfl,_,rfl,_,an,ar,_,rfl,.inr (.inr (.inl ⟨rfl,n1.toNat,n2.toNat,text r1,text r2,text r3,text r4,hn2,hR2.rows,l1,l2,l3,l4,ha⟩)),EndsS.stay hS2 k2⟩
 |c3 n1 n2 r1 r2 r3 r4 h1 h2 h3 h4 h5 h6=>
  have hR2:RowsOff (p::(FM++FT)) H2 ar [r1.map V.int,r2.map V.int,r3.map V.int,r4.map V.int]:=hR2
  rw [text_V h3,text_V h4,text_V h5,text_V h6] at hR2
  have hn2:H2 an=some (.lst [.int n1,.int n2]):=hn2
  rw [<-Int.toNat_of_nonneg h1] at hn2
  rw [<-Int.toNat_of_nonneg h2] at hn2
  have l1:=len16 (r:=r1) c6 (by simp [f16])
  have l2:=len16 (r:=r2) c6 (by simp [f16])
  have l3:=len16 (r:=r3) c6 (by simp [f16])
  have l4:=len16 (r:=r4) c6 (by simp [f16])
  have h6:sixteen [text r1,text r2,text r3,text r4]=true:=by unfold sixteen;simp [l1,l2,l3,l4]
  have ha:Hushwork.pure_ (.zero n1.toNat n2.toNat (text r1) (text r2) (text r3) (text r4))=if n1.toNat < 16 then ⟨0,Hush.zero (text r2) (text r3) (text r4) (text r1) n1.toNat n2.toNat,[]⟩ else says (-1):=by
   show may (sixteen [text r1,text r2,text r3,text r4]&&decide (n1.toNat < 16)) _=_
   rw [h6]
   by_cases hc:n1.toNat < 16
   ·rw [if_pos hc,decide_eq_true hc]
    rfl
   ·rw [if_neg hc,decide_eq_false hc]
    rfl
  exact ⟨_,rfl,_,_,rfl,rfl,_,rfl,_,rfl,_,rfl,_,rfl,_,an,ar,_,rfl,.inr (.inr (.inr (.inl ⟨rfl,n1.toNat,n2.toNat,text r1,text r2,text r3,text r4,hn2,hR2.rows,l1,l2,l3,l4,ha⟩))),EndsS.stay hS2 k2⟩
 |c4 n1 n2 r1 r2 r3 r4 h1 h2 h3 h4 h5 h6=>
  have hR2:RowsOff (p::(FM++FT)) H2 ar [r1.map V.int,r2.map V.int,r3.map V.int,r4.map V.int]:=hR2
  rw [text_V h3,text_V h4,text_V h5,text_V h6] at hR2
  have hn2:H2 an=some (.lst [.int n1,.int n2]):=hn2
  rw [<-Int.toNat_of_nonneg h1] at hn2
  rw [<-Int.toNat_of_nonneg h2] at hn2
  have l1:=len16 (r:=r1) c6 (by simp [f16])
  have l2:=len16 (r:=r2) c6 (by simp [f16])
  have l3:=len16 (r:=r3) c6 (by simp [f16])
  have h6:sixteen [text r1,text r2,text r3]=true:=by unfold sixteen;simp [l1,l2,l3]
  have ha:Hushwork.pure_ (.one n1.toNat n2.toNat (text r1) (text r2) (text r3) (text r4))=if (text r4).length=32/\n1.toNat < 16 then ⟨0,Hush.one (text r2) (text r3) (text r4) (text r1) n1.toNat n2.toNat,[]⟩ else says (-1):=by
   show may (sixteen [text r1,text r2,text r3]&&((text r4).length == 32&&decide (n1.toNat < 16))) _=_
   rw [h6]
   by_cases hc:(text r4).length=32/\n1.toNat < 16
   ·rw [if_pos hc,beq_iff_eq.mpr hc.1,decide_eq_true hc.2]
    rfl
   ·rw [if_neg hc]
    have hz:((text r4).length == 32&&decide (n1.toNat < 16))=false:=by
     rw [Bool.and_eq_false_iff]
     by_cases h32:(text r4).length=32
     ·exact .inr (decide_eq_false fun z=>hc ⟨h32,z⟩)
     ·exact .inl (beq_eq_false_iff_ne.mpr h32)
    rw [hz]
    rfl
  exact ⟨_,rfl,_,_,rfl,rfl,_,rfl,_,rfl,_,rfl,_,rfl,_,an,ar,_,rfl,.inr (.inr (.inr (.inr ⟨rfl,n1.toNat,n2.toNat,text r1,text r2,text r3,text r4,hn2,hR2.rows,l1,l2,l3,ha⟩))),EndsS.stay hS2 k2⟩
 |c5 r1 h1=>
  have hR2:RowsOff (p::(FM++FT)) H2 ar [r1.map V.int]:=hR2
  rw [text_V h1] at hR2
  exact ⟨_,rfl,_,_,rfl,rfl,_,rfl,_,rfl,_,_,rfl,.inr (T.t_MAKER_CALL_NUMBERS.sq _),rfl,rfl,_,rfl,_,rfl,_,_,rfl,.inr (T.t_TAKER_CALL_NUMBERS.sq _),rfl,rfl,_,rfl,_,rfl,_,rfl,_,rfl,p,ar,_,FM,FT,GT,st,_,rfl,hS2,.inl ⟨rfl,text r1,hR2.rows,rfl⟩,k2⟩
 |c6=>
  obtain ⟨ci,hci⟩:=isS (show st.circuit.isNone=false from cm)
  exact ⟨_,rfl,_,_,rfl,rfl,_,rfl,_,rfl,_,_,rfl,.inr (T.t_MAKER_CALL_NUMBERS.sq _),rfl,rfl,_,rfl,_,rfl,_,_,rfl,.inr (T.t_TAKER_CALL_NUMBERS.sq _),rfl,rfl,_,rfl,_,rfl,_,rfl,_,rfl,p,ar,_,FM,FT,GT,st,_,rfl,hS2,.inr ⟨ci,hci,.inl ⟨rfl,rfl⟩⟩,k2⟩
 |c7 r1 r2 h1 h2=>
  have hR2:RowsOff (p::(FM++FT)) H2 ar [r1.map V.int,r2.map V.int]:=hR2
  rw [nats_V h1,nats_V h2] at hR2
  obtain ⟨ci,hci⟩:=isS (show st.circuit.isNone=false from cm)
  exact ⟨_,rfl,_,_,rfl,rfl,_,rfl,_,rfl,_,_,rfl,.inr (T.t_MAKER_CALL_NUMBERS.sq _),rfl,rfl,_,rfl,_,rfl,_,_,rfl,.inr (T.t_TAKER_CALL_NUMBERS.sq _),rfl,rfl,_,rfl,_,rfl,_,rfl,_,rfl,p,ar,_,FM,FT,GT,st,_,rfl,hS2,.inr ⟨ci,hci,.inr (.inl ⟨rfl,nats r1,nats r2,hR2.rows,rfl⟩)⟩,k2⟩
 |c8 r1 r2 h1 h2=>
  have hR2:RowsOff (p::(FM++FT)) H2 ar [r1.map V.int,r2.map V.int]:=hR2
  rw [text_V h1,text_V h2] at hR2
  have l1:=len16 (r:=r1) c6 (by simp [f16])
  have l2:=len16 (r:=r2) c6 (by simp [f16])
  obtain ⟨ci,hci⟩:=isS (show st.circuit.isNone=false from cm)
  exact ⟨_,rfl,_,_,rfl,rfl,_,rfl,_,rfl,_,_,rfl,.inr (T.t_MAKER_CALL_NUMBERS.sq _),rfl,rfl,_,rfl,_,rfl,_,_,rfl,.inr (T.t_TAKER_CALL_NUMBERS.sq _),rfl,rfl,_,rfl,_,rfl,_,rfl,_,rfl,p,ar,_,FM,FT,GT,st,_,rfl,hS2,.inr ⟨ci,hci,.inr (.inr (.inl ⟨rfl,text r1,text r2,hR2.rows,l1,l2,rfl⟩))⟩,k2⟩
 |c9 n1 h1=>
  have hn2:H2 an=some (.lst [.int n1]):=hn2
  rw [<-Int.toNat_of_nonneg h1] at hn2
  obtain ⟨m,hm⟩:=isS (show st.maker.isNone=false from cm)
  rw [(onM rfl).2 m hm] at k2
  rw [hm] at g2
  obtain ⟨mp,l,t,rfl,rfl,hM⟩:=g2
  exact ⟨_,rfl,_,_,rfl,rfl,_,rfl,_,rfl,_,_,rfl,.inr (T.t_MAKER_CALL_NUMBERS.sq _),rfl,rfl,_,rfl,_,rfl,p,_,dx,_,_,rfl,.inl e,T.c_State.cl,T.c_State.n,sfs_m _ _ _,_,rfl,_,rfl,_,rfl,mp,an,ar,l,t,_,m,_,rfl,hM,.inl ⟨rfl,n1.toNat,hn2,rfl⟩,EndsS.toM hS2 e g1 g3 k2⟩
 |c10 r1 h1=>
  have hR2:RowsOff (p::(FM++FT)) H2 ar [r1.map V.int]:=hR2
  rw [text_V h1] at hR2
  obtain ⟨m,hm⟩:=isS (show st.maker.isNone=false from cm)
  rw [(onM rfl).2 m hm] at k2
  rw [hm] at g2
  obtain ⟨mp,l,t,rfl,rfl,hM⟩:=g2
  have hR3:=hR2.mono (G:=[l,t]) fun b hb=>List.mem_cons_of_mem _ (List.mem_append_left _ hb)
  exact ⟨_,rfl,_,_,rfl,rfl,_,rfl,_,rfl,_,_,rfl,.inr (T.t_MAKER_CALL_NUMBERS.sq _),rfl,rfl,_,rfl,_,rfl,p,_,dx,_,_,rfl,.inl e,T.c_State.cl,T.c_State.n,sfs_m _ _ _,_,rfl,_,rfl,_,rfl,mp,an,ar,l,t,_,m,_,rfl,hM,.inr (.inl ⟨rfl,text r1,hR3,rfl⟩),EndsS.toM hS2 e g1 g3 k2⟩
 |c11 n1 n2 h1 h2=>
  have hn2:H2 an=some (.lst [.int n1,.int n2]):=hn2
  rw [<-Int.toNat_of_nonneg h1] at hn2
  rw [<-Int.toNat_of_nonneg h2] at hn2
  obtain ⟨m,hm⟩:=isS (show st.maker.isNone=false from cm)
  rw [(onM rfl).2 m hm] at k2
  rw [hm] at g2
  obtain ⟨mp,l,t,rfl,rfl,hM⟩:=g2
  exact ⟨_,rfl,_,_,rfl,rfl,_,rfl,_,rfl,_,_,rfl,.inr (T.t_MAKER_CALL_NUMBERS.sq _),rfl,rfl,_,rfl,_,rfl,p,_,dx,_,_,rfl,.inl e,T.c_State.cl,T.c_State.n,sfs_m _ _ _,_,rfl,_,rfl,_,rfl,mp,an,ar,l,t,_,m,_,rfl,hM,.inr (.inr (.inl ⟨rfl,n1.toNat,n2.toNat,hn2,rfl⟩)),EndsS.toM hS2 e g1 g3 k2⟩
 |c12 n1 h1=>
  have hn2:H2 an=some (.lst [.int n1]):=hn2
  rw [<-Int.toNat_of_nonneg h1] at hn2
  obtain ⟨m,hm⟩:=isS (show st.maker.isNone=false from cm)
  rw [(onM rfl).2 m hm] at k2
  rw [hm] at g2
  obtain ⟨mp,l,t,rfl,rfl,hM⟩:=g2
  exact ⟨_,rfl,_,_,rfl,rfl,_,rfl,_,rfl,_,_,rfl,.inr (T.t_MAKER_CALL_NUMBERS.sq _),rfl,rfl,_,rfl,_,rfl,p,_,dx,_,_,rfl,.inl e,T.c_State.cl,T.c_State.n,sfs_m _ _ _,_,rfl,_,rfl,_,rfl,mp,an,ar,l,t,_,m,_,rfl,hM,.inr (.inr (.inr (.inl ⟨rfl,n1.toNat,hn2,rfl⟩))),EndsS.toM hS2 e g1 g3 k2⟩
 |c13=>
  obtain ⟨m,hm⟩:=isS (show st.maker.isNone=false from cm)
  rw [(onM rfl).2 m hm] at k2
  rw [hm] at g2
  obtain ⟨mp,l,t,rfl,rfl,hM⟩:=g2
  exact ⟨_,rfl,_,_,rfl,rfl,_,rfl,_,rfl,_,_,rfl,.inr (T.t_MAKER_CALL_NUMBERS.sq _),rfl,rfl,_,rfl,_,rfl,p,_,dx,_,_,rfl,.inl e,T.c_State.cl,T.c_State.n,sfs_m _ _ _,_,rfl,_,rfl,_,rfl,mp,an,ar,l,t,_,m,_,rfl,hM,.inr (.inr (.inr (.inr (.inl ⟨rfl,rfl⟩)))),EndsS.toM hS2 e g1 g3 k2⟩
 |c14 n1 h1=>
  have hn2:H2 an=some (.lst [.int n1]):=hn2
  rw [<-Int.toNat_of_nonneg h1] at hn2
  obtain ⟨m,hm⟩:=isS (show st.maker.isNone=false from cm)
  rw [(onM rfl).2 m hm] at k2
  rw [hm] at g2
  obtain ⟨mp,l,t,rfl,rfl,hM⟩:=g2
  exact ⟨_,rfl,_,_,rfl,rfl,_,rfl,_,rfl,_,_,rfl,.inr (T.t_MAKER_CALL_NUMBERS.sq _),rfl,rfl,_,rfl,_,rfl,p,_,dx,_,_,rfl,.inl e,T.c_State.cl,T.c_State.n,sfs_m _ _ _,_,rfl,_,rfl,_,rfl,mp,an,ar,l,t,_,m,_,rfl,hM,.inr (.inr (.inr (.inr (.inr (.inl ⟨rfl,n1.toNat,hn2,rfl⟩))))),EndsS.toM hS2 e g1 g3 k2⟩
 |c15 n1 r1 h1 h2=>
  have hR2:RowsOff (p::(FM++FT)) H2 ar [r1.map V.int]:=hR2
  rw [text_V h2] at hR2
  have hn2:H2 an=some (.lst [.int n1]):=hn2
  rw [<-Int.toNat_of_nonneg h1] at hn2
  have l1:=len16 (r:=r1) c6 (by simp [f16])
  obtain ⟨m,hm⟩:=isS (show st.maker.isNone=false from cm)
  rw [(onM rfl).2 m hm] at k2
  rw [hm] at g2
  obtain ⟨mp,l,t,rfl,rfl,hM⟩:=g2
  have hR3:=hR2.mono (G:=[l,t]) fun b hb=>List.mem_cons_of_mem _ (List.mem_append_left _ hb)
  exact ⟨_,rfl,_,_,rfl,rfl,_,rfl,_,rfl,_,_,rfl,.inr (T.t_MAKER_CALL_NUMBERS.sq _),rfl,rfl,_,rfl,_,rfl,p,_,dx,_,_,rfl,.inl e,T.c_State.cl,T.c_State.n,sfs_m _ _ _,_,rfl,_,rfl,_,rfl,mp,an,ar,l,t,_,m,_,rfl,hM,.inr (.inr (.inr (.inr (.inr (.inr (⟨rfl,n1.toNat,text r1,hn2,hR3,l1,rfl⟩)))))),EndsS.toM hS2 e g1 g3 k2⟩
 |c16 r1 h1=>
  have hR2:RowsOff (p::(FM++FT)) H2 ar [r1.map V.int]:=hR2
  rw [text_V h1] at hR2
  have l1:=len16 (r:=r1) c6 (by simp [f16])
  obtain ⟨ci,hci⟩:=isS (show st.circuit.isNone=false from cm)
  exact ⟨_,rfl,_,_,rfl,rfl,_,rfl,_,rfl,_,_,rfl,.inr (T.t_MAKER_CALL_NUMBERS.sq _),rfl,rfl,_,rfl,_,rfl,_,_,rfl,.inr (T.t_TAKER_CALL_NUMBERS.sq _),rfl,rfl,_,rfl,_,rfl,_,rfl,_,rfl,p,ar,_,FM,FT,GT,st,_,rfl,hS2,.inr ⟨ci,hci,.inr (.inr (.inr (⟨rfl,text r1,hR2.rows,l1,rfl⟩)))⟩,k2⟩
 |c17 n1 r1 h1 h2=>
  have hR2:RowsOff (p::(FM++FT)) H2 ar [r1.map V.int]:=hR2
  rw [text_V h2] at hR2
  have hn2:H2 an=some (.lst [.int n1]):=hn2
  rw [<-Int.toNat_of_nonneg h1] at hn2
  have l1:=len16 (r:=r1) c6 (by simp [f16])
  obtain ⟨m,hm⟩:=isS (show st.taker.isNone=false from cm)
  rw [(onT rfl).2 m hm] at k2
  rw [hm] at g3
  obtain ⟨tp,l,pc,rfl,rfl,rfl,hT⟩:=g3
  have hR3:=hR2.mono (G:=[tp,l]) fun b hb=>List.mem_cons_of_mem _ (List.mem_append_right _ hb)
  exact ⟨_,rfl,_,_,rfl,rfl,_,rfl,_,rfl,_,_,rfl,.inr (T.t_MAKER_CALL_NUMBERS.sq _),rfl,rfl,_,rfl,_,rfl,_,_,rfl,.inr (T.t_TAKER_CALL_NUMBERS.sq _),rfl,rfl,_,rfl,_,rfl,p,_,dx,_,_,rfl,.inl e,T.c_State.cl,T.c_State.n,sfs_t _ _ _,_,rfl,_,rfl,_,rfl,tp,an,ar,l,pc,_,m,_,rfl,hT,.inl ⟨rfl,n1.toNat,text r1,hn2,hR3,l1,rfl⟩,EndsS.toT hS2 e g1 g2 k2⟩
 |c18 r1 h1=>
  have hR2:RowsOff (p::(FM++FT)) H2 ar [r1.map V.int]:=hR2
  rw [text_V h1] at hR2
  obtain ⟨m,hm⟩:=isS (show st.taker.isNone=false from cm)
  rw [(onT rfl).2 m hm] at k2
  rw [hm] at g3
  obtain ⟨tp,l,pc,rfl,rfl,rfl,hT⟩:=g3
  have hR3:=hR2.mono (G:=[tp,l]) fun b hb=>List.mem_cons_of_mem _ (List.mem_append_right _ hb)
  exact ⟨_,rfl,_,_,rfl,rfl,_,rfl,_,rfl,_,_,rfl,.inr (T.t_MAKER_CALL_NUMBERS.sq _),rfl,rfl,_,rfl,_,rfl,_,_,rfl,.inr (T.t_TAKER_CALL_NUMBERS.sq _),rfl,rfl,_,rfl,_,rfl,p,_,dx,_,_,rfl,.inl e,T.c_State.cl,T.c_State.n,sfs_t _ _ _,_,rfl,_,rfl,_,rfl,tp,an,ar,l,pc,_,m,_,rfl,hT,.inr (.inl ⟨rfl,text r1,hR3,rfl⟩),EndsS.toT hS2 e g1 g2 k2⟩
 |c19 n1 h1=>
  have hn2:H2 an=some (.lst [.int n1]):=hn2
  rw [<-Int.toNat_of_nonneg h1] at hn2
  obtain ⟨m,hm⟩:=isS (show st.taker.isNone=false from cm)
  rw [(onT rfl).2 m hm] at k2
  rw [hm] at g3
  obtain ⟨tp,l,pc,rfl,rfl,rfl,hT⟩:=g3
  exact ⟨_,rfl,_,_,rfl,rfl,_,rfl,_,rfl,_,_,rfl,.inr (T.t_MAKER_CALL_NUMBERS.sq _),rfl,rfl,_,rfl,_,rfl,_,_,rfl,.inr (T.t_TAKER_CALL_NUMBERS.sq _),rfl,rfl,_,rfl,_,rfl,p,_,dx,_,_,rfl,.inl e,T.c_State.cl,T.c_State.n,sfs_t _ _ _,_,rfl,_,rfl,_,rfl,tp,an,ar,l,pc,_,m,_,rfl,hT,.inr (.inr (.inl ⟨rfl,n1.toNat,hn2,rfl⟩)),EndsS.toT hS2 e g1 g2 k2⟩
 |c20 n1 n2 h1 h2=>
  have hn2:H2 an=some (.lst [.int n1,.int n2]):=hn2
  rw [<-Int.toNat_of_nonneg h1] at hn2
  rw [<-Int.toNat_of_nonneg h2] at hn2
  obtain ⟨m,hm⟩:=isS (show st.taker.isNone=false from cm)
  rw [(onT rfl).2 m hm] at k2
  rw [hm] at g3
  obtain ⟨tp,l,pc,rfl,rfl,rfl,hT⟩:=g3
  exact ⟨_,rfl,_,_,rfl,rfl,_,rfl,_,rfl,_,_,rfl,.inr (T.t_MAKER_CALL_NUMBERS.sq _),rfl,rfl,_,rfl,_,rfl,_,_,rfl,.inr (T.t_TAKER_CALL_NUMBERS.sq _),rfl,rfl,_,rfl,_,rfl,p,_,dx,_,_,rfl,.inl e,T.c_State.cl,T.c_State.n,sfs_t _ _ _,_,rfl,_,rfl,_,rfl,tp,an,ar,l,pc,_,m,_,rfl,hT,.inr (.inr (.inr (⟨rfl,n1.toNat,n2.toNat,hn2,rfl⟩))),EndsS.toT hS2 e g1 g2 k2⟩
open Hushwork (Answer says tells making taking step onCircuit may sixteen)
open HushworkNeutral (text nats callOf asked1 natural numbersOf)
def Small (a:Answer):Prop:=a.bytes.length<=1024/\a.nums.length<=1024
theorem nlen (a:Answer):(numbersOf a).length=a.bytes.length+a.nums.length+3:=by
 unfold numbersOf
 rw [List.length_append,List.length_cons,List.length_cons,List.length_map,List.length_cons]
 omega
theorem small_says (z:Int):Small (says z):=⟨Nat.zero_le _,Nat.zero_le _⟩
theorem small_tells (z:Int) (l:List Nat) (h:l.length<=1024):Small (tells z l):=⟨Nat.zero_le _,by show (Hushwork.ints l).length<=_;unfold Hushwork.ints;rw [List.length_map];exact h⟩
theorem small_bytes (z:Int) (b:Bytes) (h:b.length<=1024):Small ⟨z,b,[]⟩:=⟨h,Nat.zero_le _⟩
theorem small_may {b:Bool} {a:Answer} (h:b=true->Small a):Small (may b a):=by
 unfold may
 by_cases hb:b=true
 ·rw [if_pos hb];exact h hb
 ·rw [if_neg hb];exact small_says _
theorem small_if {c:Prop} [Decidable c] {a b:Answer} (ha:c->Small a) (hb:¬c->Small b):Small (if c then a else b):=by
 by_cases h:c
 ·rw [if_pos h];exact ha h
 ·rw [if_neg h];exact hb h
theorem small_if2 {α:Type} {c:Prop} [Decidable c] {a b:α×Answer} (ha:c->Small a.2) (hb:¬c->Small b.2):Small (if c then a else b).2:=by
 by_cases h:c
 ·rw [if_pos h];exact ha h
 ·rw [if_neg h];exact hb h
theorem six_mem {l:List Bytes} (h:sixteen l=true) {b:Bytes} (hb:b∈l):b.length=16:=by
 unfold sixteen at h
 exact beq_iff_eq.mp (List.all_eq_true.mp h b hb)
theorem tables_mem {m:SMaker}:∀(r:List (Nat×Hush.Gate)) (most n:Nat),(m.tables r most n).1.length<=r.length/\∀x∈(m.tables r most n).1,∃y∈r,x=m.tableAt y
 |[],most,n=>⟨Nat.le_refl _,fun x hx=>by cases hx⟩
 |y::r,most,n=>by
  by_cases ho:Hush.odd y.2.f=false
  ·have e:m.tables (y::r) most n=m.tables r most (n+1):=by
    show (if Hush.odd y.2.f=false then _ else _)=_
    rw [if_pos ho]
   rw [e]
   have ih:=tables_mem (m:=m) r most (n+1)
   exact ⟨by rw [List.length_cons];omega,fun x hx=>let ⟨y',hy,e⟩:=ih.2 x hx;⟨y',List.mem_cons_of_mem _ hy,e⟩⟩
  ·cases most with
   |zero=>
    have e:m.tables (y::r) 0 n=([],n):=by
     show (if Hush.odd y.2.f=false then _ else _)=_
     rw [if_neg ho]
    rw [e]
    exact ⟨Nat.zero_le _,fun x hx=>by cases hx⟩
   |succ k=>
    have e:m.tables (y::r) (k+1) n=(m.tableAt y::(m.tables r k (n+1)).1,(m.tables r k (n+1)).2):=by
     show (if Hush.odd y.2.f=false then _ else _)=_
     rw [if_neg ho]
    rw [e]
    have ih:=tables_mem (m:=m) r k (n+1)
    refine ⟨by rw [List.length_cons,List.length_cons];omega,fun x hx=>?_⟩
    rcases List.mem_cons.mp hx with h|h
    ·exact ⟨y,List.mem_cons_self ..,h⟩
    ·obtain ⟨y',hy,e⟩:=ih.2 x h
     exact ⟨y',List.mem_cons_of_mem _ hy,e⟩
theorem step_small {A:Ad} {H:Hp} {p:Addr} {FM FT GT:List Addr} {st:SState} (hS:StAt A H p FM FT GT st) {n:Int} {nums:List Int} {rows:List (List Int)} {x:Hushwork.Call} (f:Form n nums rows x):Small (step st x).2:=by
 obtain ⟨dx,vc,vm,vt,e,g1,g2,g3⟩:=hS.ex
 have hC:∀c,st.circuit=some c->WfC c:=fun c h=>by rw [h] at g1;obtain ⟨_,_,z⟩:=g1;exact z.wf
 have hM:∀m,st.maker=some m->∃mp l t,MakerAt A H mp l t m:=fun c h=>by rw [h] at g2;obtain ⟨mp,l,t,_,_,z⟩:=g2;exact ⟨mp,l,t,z⟩
 have hT:∀m,st.taker=some m->∃tp l pc,TakerAt A H tp l pc m:=fun c h=>by rw [h] at g3;obtain ⟨tp,l,pc,_,_,_,z⟩:=g3;exact ⟨tp,l,pc,z⟩
 have cC:∀c,step st c=(match st.circuit with|none=>(st,says (-8))|some y=>onCircuit st y c)->(∀y,st.circuit=some y->Small (onCircuit st y c).2)->Small (step st c).2:=fun c h1 h2=>by
  cases h:st.circuit with
  |none=>rw [(onC h1).1 h];exact small_says _
  |some y=>rw [(onC h1).2 y h];exact h2 y h
 have cM:∀c,step st c=(match st.maker with|none=>(st,says (-8))|some m=>(⟨st.circuit,some (making m c).1,st.taker⟩,(making m c).2))->(∀y,st.maker=some y->Small (making y c).2)->Small (step st c).2:=fun c h1 h2=>by
  cases h:st.maker with
  |none=>rw [(onM h1).1 h];exact small_says _
  |some y=>rw [(onM h1).2 y h];exact h2 y h
 have cT:∀c,step st c=(match st.taker with|none=>(st,says (-8))|some m=>(⟨st.circuit,st.maker,some (taking m c).1⟩,(taking m c).2))->(∀y,st.taker=some y->Small (taking y c).2)->Small (step st c).2:=fun c h1 h2=>by
  cases h:st.taker with
  |none=>rw [(onT h1).1 h];exact small_says _
  |some y=>rw [(onT h1).2 y h];exact h2 y h
 cases f with
 |c0 r1 h1=>
  show Small (may _ ⟨0,_,[]⟩)
  exact small_may fun _=>small_bytes _ _ (by rw [HM.length_twice];decide)
 |c1 r1 r2 r3 h1 h2 h3=>
  show Small (may _ ⟨0,_,[]⟩)
  exact small_may fun h=>small_bytes _ _ (by rw [HM.length_mix (six_mem h (by simp)) (six_mem h (by simp))];decide)
 |c2 n1 n2 r1 r2 r3 r4 h1 h2 h3 h4 h5 h6=>
  show Small (may (sixteen [text r1,text r2,text r3,text r4]&&_) ⟨0,_,[]⟩)
  exact small_may fun h=>by
   rw [Bool.and_eq_true] at h
   exact small_bytes _ _ (by rw [len_table _ _ (six_mem h.1 (by simp)) (six_mem h.1 (by simp)) (six_mem h.1 (by simp)) (six_mem h.1 (by simp))];decide)
 |c3 n1 n2 r1 r2 r3 r4 h1 h2 h3 h4 h5 h6=>
  show Small (may (sixteen [text r1,text r2,text r3,text r4]&&_) ⟨0,_,[]⟩)
  exact small_may fun h=>by
   rw [Bool.and_eq_true] at h
   exact small_bytes _ _ (by rw [len_zero _ _ (six_mem h.1 (by simp)) (six_mem h.1 (by simp)) (six_mem h.1 (by simp)) (six_mem h.1 (by simp))];decide)
 |c4 n1 n2 r1 r2 r3 r4 h1 h2 h3 h4 h5 h6=>
  show Small (may (sixteen [text r1,text r2,text r3]&&((text r4).length == 32&&decide (n1.toNat < 16))) ⟨0,_,[]⟩)
  exact small_may fun h=>by
   rw [Bool.and_eq_true,Bool.and_eq_true,decide_eq_true_eq,beq_iff_eq] at h
   exact small_bytes _ _ (by rw [len_one _ _ h.2.2 (six_mem h.1 (by simp)) (six_mem h.1 (by simp)) h.2.1 (six_mem h.1 (by simp))];decide)
 |c5 r1 h1=>
  show Small (if Hushwork.LOOKED < (text r1).length then (st,says (-2)) else (match Hush.read (text r1) with
   |.error p=>(st,tells (-6) [p])
   |.ok c=>(⟨some c,st.maker,st.taker⟩,says 0))).2
  refine small_if2 (fun _=>small_says _) fun _=>?_
  cases Hush.read (text r1) with
  |error p=>exact small_tells _ _ (by show 1<=1024;decide)
  |ok c=>exact small_says _
 |c6=>exact cC _ rfl fun y hy=>small_tells _ _ (by show 5<=1024;decide)
 |c7 r1 r2 h1 h2=>
  refine cC _ rfl fun y hy=>?_
  refine small_if (fun _=>small_says _) fun _=>small_tells _ _ ?_
  unfold Hush.plain
  rw [List.length_map,List.length_map]
  have:=(hC y hy).no
  omega
 |c8 r1 r2 h1 h2=>exact cC _ rfl fun y hy=>small_if2 (fun _=>small_says _) fun _=>small_says _
 |c9 n1 h1=>
  refine cM _ rfl fun y hy=>?_
  obtain ⟨mp,l,t,hMk⟩:=hM y hy
  have hmk:=tables_mem (m:=y) y.ahead n1.toNat y.done
  have hal:y.ahead.length<=32:=by
   unfold Hushwork.Maker.ahead
   rw [List.length_drop,numbered_len]
   have:=hMk.wf.ng
   omega
  have h32:∀x∈(y.tables y.ahead n1.toNat y.done).1,x.length=32:=fun x hx=>by
   obtain ⟨z,hz,rfl⟩:=hmk.2 x hx
   unfold Hushwork.Maker.ahead at hz
   have hz2:=List.mem_of_mem_drop hz
   obtain ⟨i,hi⟩:=List.getElem?_of_mem hz2
   obtain ⟨g,hg⟩:∃g,y.circ.gates[i]?=some g:=⟨_,List.getElem?_eq_getElem (by have:=(List.getElem?_eq_some_iff.mp hi).1;rw [numbered_len] at this;exact this)⟩
   rw [numbered_get hg] at hi
   cases hi
   exact tableAt_len hMk.wf hMk.zs hMk.key hMk.seed hg
  refine ⟨?_,by show 2<=1024;decide⟩
  show ((y.tables y.ahead n1.toNat y.done).1.flatMap id).length<=1024
  rw [List.flatMap_id,flat_len h32]
  omega
 |c10 r1 h1=>exact cM _ rfl fun y hy=>small_if2 (fun _=>small_says _) fun _=>small_if2 (fun _=>small_says _) fun _=>small_tells _ _ (by show 2<=1024;decide)
 |c11 n1 n2 h1 h2=>
  refine cM _ rfl fun y hy=>?_
  obtain ⟨mp,l,t,hMk⟩:=hM y hy
  refine small_if2 (fun _=>small_says _) fun hc=>small_if2 (fun _=>small_says _) fun _=>small_bytes _ _ ?_
  have hi:n1.toNat < y.circ.ins:=by omega
  have hlen:=hMk.len
  have hz0:(y.zeros.getD n1.toNat []).length=16:=by
   rw [hMk.zs,zeros_get (i:=y.done) hMk.dn (by omega)]
   exact hMk.a16.get (by omega)
  have hll:(Hush.labelOf (y.zeros.getD n1.toNat []) (Hush.difference y.seed) (n2.toNat == 1)).length=16:=la hz0 (lw hMk.d16)
  rw [hll]
  decide
 |c12 n1 h1=>exact cM _ rfl fun y hy=>small_if (fun _=>small_says _) fun _=>small_says _
 |c13=>exact cM _ rfl fun y hy=>small_says _
 |c14 n1 h1=>
  refine cM _ rfl fun y hy=>?_
  show Small (y.ofOut _ _)
  unfold Hushwork.Maker.ofOut
  exact small_if (fun _=>small_says _) fun _=>small_if (fun _=>small_says _) fun _=>small_says _
 |c15 n1 r1 h1 h2=>
  refine cM _ rfl fun y hy=>?_
  show Small (if _ then _ else y.ofOut _ _)
  unfold Hushwork.Maker.ofOut
  exact small_if (fun _=>small_says _) fun _=>small_if (fun _=>small_says _) fun _=>small_if (fun _=>small_says _) fun _=>small_if (fun _=>small_says _) fun _=>small_if (fun _=>small_says _) fun _=>small_says _
 |c16 r1 h1=>exact cC _ rfl fun y hy=>small_if2 (fun _=>small_says _) fun _=>small_says _
 |c17 n1 r1 h1 h2=>exact cT _ rfl fun y hy=>small_if2 (fun _=>small_says _) fun _=>small_if2 (fun _=>small_says _) fun _=>small_if2 (fun _=>small_says _) fun _=>small_says _
 |c18 r1 h1=>
  refine cT _ rfl fun y hy=>small_if2 (fun _=>small_says _) fun _=>?_
  cases y.ready with
  |none=>exact small_says _
  |some l=>exact small_tells _ _ (by show 1<=1024;decide)
 |c19 n1 h1=>
  refine cT _ rfl fun y hy=>?_
  obtain ⟨tp,l,pc,hTk⟩:=hT y hy
  obtain ⟨ls,n,fed,hTT,_,_,_,hbs⟩:=hTk.tk
  show Small (y.ofOut _ _)
  unfold Hushwork.Taker.ofOut
  refine small_if (fun _=>small_says _) fun hj=>small_if (fun _=>small_says _) fun hf=>small_bytes _ _ ?_
  obtain ⟨bs,hb1,_,a16,hlen⟩:=hbs (by simpa using hf)
  unfold Hushwork.Taker.labelAt
  rw [hb1]
  have:=a16.get (i:=Hushwork.wire y.circ n1.toNat) (by rw [hlen];exact wire_lt hTT.wf (by omega))
  show (bs.getD (Hushwork.wire y.circ n1.toNat) []).length<=1024
  rw [this]
  decide
 |c20 n1 n2 h1 h2=>
  refine cT _ rfl fun y hy=>?_
  show Small (if _ then _ else y.ofOut _ _)
  unfold Hushwork.Taker.ofOut
  exact small_if (fun _=>small_says _) fun _=>small_if (fun _=>small_says _) fun _=>small_if (fun _=>small_says _) fun _=>small_says _
theorem dsame {P:Prop} [i:Decidable P] {α:Type} {f:P->α} {g:¬P->α} {v:α} (p:∀h,f h=v) (q:∀h,g h=v):dite P f g=v:=by
 cases i with
 |isTrue h=>exact p h
 |isFalse h=>exact q h
theorem whole_id (c:List (List Int)):PyWqaeav.whole c=c:=by
 unfold PyWqaeav.whole PyWqaeav.whole.match_1
 match c with
 |[]=>rfl
 |[]::t=>rfl
 |(x::a)::t=>
  repeat' (first|rfl|refine dsame (fun h=>?_) (fun h=>?_)|(subst h;clear h))
  all_goals (try cases h)
  all_goals (repeat' (first|rfl|obtain _|⟨_,a⟩:=a))
  all_goals (repeat' (first|rfl|obtain _|⟨_,t⟩:=t))
open Hushwork (Answer says tells making taking onCircuit may sixteen)
theorem calls_nil {sh:Int->Option (Nat×Nat)} {f:Nat} {cs:List (List (List Int))} (h:PyFlat.calls sh f []=some cs):cs=[]:=by
 cases f <;> (cases h;rfl)
theorem calls_cons {sh:Int->Option (Nat×Nat)} {fuel:Nat} {p:Int} {r:List Int} {cs:List (List (List Int))} (h:PyFlat.calls sh fuel (p::r)=some cs):
  ∃f a b xs t cs',sh p=some (a,b)/\a<=r.length/\PyFlat.rows b (r.drop a)=some (xs,t)/\PyFlat.calls sh f t=some cs'/\cs=((p::r.take a)::xs)::cs':=by
 cases fuel with
 |zero=>cases h
 |succ f=>
  rw [PyFlat.calls] at h
  cases hc:PyFlat.call sh (p::r) with
  |none=>rw [hc] at h;cases h
  |some y=>
   obtain ⟨c,t⟩:=y
   rw [hc] at h
   dsimp only at h
   cases hs:PyFlat.calls sh f t with
   |none=>rw [hs] at h;cases h
   |some cs'=>
    rw [hs] at h
    dsimp only at h
    unfold PyFlat.call at hc
    dsimp only at hc
    cases hp:sh p with
    |none=>rw [hp] at hc;cases hc
    |some y=>
     obtain ⟨a,b⟩:=y
     rw [hp] at hc
     dsimp only at hc
     by_cases hl:r.length < a
     ·rw [if_pos hl] at hc;cases hc
     ·rw [if_neg hl] at hc
      cases hr:PyFlat.rows b (r.drop a) with
      |none=>rw [hr] at hc;cases hc
      |some y=>
       obtain ⟨xs,t'⟩:=y
       rw [hr] at hc
       dsimp only at hc
       injection hc with hc
       injection hc with hc1 hc2
       injection h with h
       exact ⟨f,a,b,xs,t',cs',rfl,by omega,hr,by rw [hc2];exact hs,by rw [<-h,hc1]⟩
theorem rows_cons {m:Nat} {r t:List Int} {xs:List (List Int)} (h:PyFlat.rows (m+1) r=some (xs,t)):∃(n:Nat) (r':List Int) (ys:List (List Int)),r=(n:Int)::r'/\n<=r'.length/\PyFlat.rows m (r'.drop n)=some (ys,t)/\xs=r'.take n::ys:=by
 rw [PyFlat.rows] at h
 cases r with
 |nil=>cases h
 |cons n r'=>
  unfold PyFlat.row at h
  dsimp only at h
  by_cases hn:0<=n/\n.toNat<=r'.length
  ·rw [if_pos hn] at h
   dsimp only at h
   cases hr:PyFlat.rows m (r'.drop n.toNat) with
   |none=>rw [hr] at h;cases h
   |some y=>
    obtain ⟨ys,t'⟩:=y
    rw [hr] at h
    dsimp only at h
    injection h with h
    injection h with h1 h2
    exact ⟨n.toNat,r',ys,by rw [Int.toNat_of_nonneg hn.1],hn.2,by rw [<-h2];exact hr,h1.symm⟩
  ·rw [if_neg hn] at h
   cases h
theorem rows_nil {r t:List Int} {xs:List (List Int)} (h:PyFlat.rows 0 r=some (xs,t)):xs=[]/\t=r:=by
 cases h
 exact ⟨rfl,rfl⟩
theorem rows_len:∀{m:Nat} {r t:List Int} {xs:List (List Int)},PyFlat.rows m r=some (xs,t)->xs.length=m
 |0,r,t,xs,h=>by rw [(rows_nil h).1];rfl
 |m+1,r,t,xs,h=>by
  obtain ⟨n,r',ys,_,_,h2,rfl⟩:=rows_cons h
  rw [List.length_cons,rows_len h2]
theorem form_small {n:Int} {nums:List Int} {rows:List (List Int)} {x:Hushwork.Call} (f:Form n nums rows x):nums.length<=2/\rows.length<=4:=by
 cases f <;> exact ⟨by simp,by simp⟩
theorem ansV_n (a:Answer):ansV a=(numbersOf a).map V.int:=rfl
theorem sc_answers:FnScope ["calls","reader","state","told","number","form","numbers","rows","answer","k"] ["calls"] (defScope s_answers):=scB
theorem ok_answers (T:Txt K mg A):FnOk P w K mg base CX0 13 A.f_answers A.d_answers ["calls"] (spAns K):=by
 refine T.answers.fn.okA sc_answers (fun _ _ _ _ H _ Q E hr h=>?_)
 obtain ⟨a,ns,rfl,hSta,hlen,hnn,hask,k⟩:=h
 refine ⟨_,(pss_cons (ps_asg (pe_make T.c_CallReader.mk_ (ok_CallReader_init T) (rm hr) rfl T.c_CallReader.mg_ T.CallReader_init.bi .nil pass0 (pa_cons (pv 0) pa_nil)) (pgN (i:=1) sc_answers.nd rfl (Or.inr rfl)))
  (pss_cons (ps_asg (pe_make0 T.c_State.mk_ (ok_State_init T) (rm hr) rfl T.c_State.mg_ T.State_init.bi .nil pass0) (pgN (i:=2) sc_answers.nd rfl (Or.inl rfl)))
  (pss_cons (ps_asg (pe_lst pa_nil) (pgN (i:=3) sc_answers.nd rfl (Or.inl rfl)))
  (pss_cons (ps_while PassesOwn.never (pt_not (truthK K (pe_meth0R (pv 1) T.c_CallReader.cl T.m_CallReader_at_end (ok_CallReader_at_end T) (rm hr) T.CallReader_at_end.bi .nil pass0) (fun _=>rfl))) (pss_cons (ps_asg (pe_meth0R (pv 1) T.c_CallReader.cl T.m_CallReader_take_number (ok_CallReader_take_number T) (rm hr) T.CallReader_take_number.bi .nil pass0) (pgN (i:=4) sc_answers.nd rfl (Or.inl rfl)))
  (pss_cons (ps_asg (kgetK K (pe_gref rfl T.t_FORMS.mg_) (pv 4) (fun _ _=>rfl)) (pgN (i:=5) sc_answers.nd rfl (Or.inl rfl)))
  (pss_cons (ps_setLc (i:=6) (own:=[("k",9)]) rfl sc_answers.nd rfl rfl (sw_true rfl rfl rfl rfl) (pi_range1 rfl T.n_range (pa_cons (pe_ix (ixT K) (pv 5) pe_int (fun _ _=>rfl)) pa_nil)) (blkOk_by rfl) (fun _ _ _ _ _=>(pg_name (i:=9) sc_answers.nd rfl (Or.inl rfl))) (fun _ _ _ _ _=>pts_nil) (fun _ _ _ _ _=>(pe_meth0R (pv 1) T.c_CallReader.cl T.m_CallReader_take_number (ok_CallReader_take_number T) (rm hr) T.CallReader_take_number.bi .nil pass0)))
  (pss_cons (ps_setLc (i:=7) (own:=[("k",9)]) rfl sc_answers.nd rfl rfl (sw_true rfl rfl rfl rfl) (pi_range1 rfl T.n_range (pa_cons (pe_ix (ixT K) (pv 5) pe_int (fun _ _=>rfl)) pa_nil)) (blkOk_by rfl) (fun _ _ _ _ _=>(pg_name (i:=9) sc_answers.nd rfl (Or.inl rfl))) (fun _ _ _ _ _=>pts_nil) (fun _ _ _ _ _=>(pe_meth0R (pv 1) T.c_CallReader.cl T.m_CallReader_take_row (ok_CallReader_take_row T) (rm hr) T.CallReader_take_row.bi .nil pass0)))
  (pss_cons (ps_asg (pe_call (ok_answer_of T) (rm hr) rfl T.answer_of.mg_ T.answer_of.fn.kp T.answer_of.bi .nil pass0 (pa_cons (pv 2) (pa_cons (pv 4) (pa_cons (pv 6) (pa_cons (pv 7) pa_nil))))) (pgN (i:=8) sc_answers.nd rfl (Or.inl rfl)))
  (pss_cons (ps_expr (pe_bm PySem.F.plainAttrs_list PySem.F.slot_list_append PySem.F.type_list_append mt_append (pv 3) (pa_cons (pe_callB (lenS K) (by rfl) T.n_len PySem.boot_len (pa_cons (pv 8) pa_nil)) pa_nil)))
  (pss_one (ps_expr (pe_bm PySem.F.plainAttrs_list PySem.F.slot_list_extend PySem.F.type_list_extend mt_extend (pv 3) (pa_cons (pv 8) pa_nil)))))))))))
  (pss_one (ps_ret (pv 3))))))),?_⟩
 obtain ⟨cs0,hcs0,hask1,hcount,hans⟩:∃cs0,PyFlat.calls PyWqaeav.shape ns.length ns=some cs0/\(∀c∈cs0,asked1 c=true)/\cs0.length<=400/\PyWqaeav.answers ns=PyFlat.told (PyFlat.played HushworkNeutral.step HushworkNeutral.start cs0):=by
  unfold PyWqaeav.answers_asked PyWqaeav.calls at hask
  unfold PyWqaeav.answers PyWqaeav.calls
  cases hc:PyFlat.calls PyWqaeav.shape ns.length ns with
  |none=>rw [hc] at hask;cases hask
  |some cs=>
   rw [hc] at hask
   dsimp only at hask ⊢
   have hw:cs.map PyWqaeav.whole=cs:=by
    have:PyWqaeav.whole=id:=funext whole_id
    rw [this,List.map_id]
   rw [hw] at hask ⊢
   rw [Bool.and_eq_true] at hask
   unfold HushworkNeutral.asked at hask
   rw [Bool.and_eq_true] at hask
   refine ⟨cs,rfl,List.all_eq_true.mp hask.2.1,?_,rfl⟩
   have:=hask.1
   unfold PyFlat.atMost at this
   exact of_decide_eq_true this
 refine ⟨_,rfl,fun rd d1 nr nd1 ne1=>⟨rd,d1,a,rfl,upd_same,rfl,?_⟩⟩
 rw [upd_upd]
 have s1:Same H (upd (upd H d1 (.own rd)) rd (.ins A.c_CallReader d1 (rfs a 0))):=Same.young (Same.new nd1) nr
 have hrd1:RdAt A (upd (upd H d1 (.own rd)) rd (.ins A.c_CallReader d1 (rfs a 0))) rd a 0:=⟨d1,upd_same⟩
 generalize upd (upd H d1 (.own rd)) rd (.ins A.c_CallReader d1 (rfs a 0))=H1 at s1 hrd1
 refine fun σ' es=>?_
 obtain rfl:σ'=[some (.ref a),some (.ref rd),none,none,none,none,none,none,none,none]:=es
 refine fun sp d2 nsp nd2 ne2=>⟨sp,d2,rfl,upd_same,rfl,?_⟩
 rw [upd_upd]
 have s2:Same H1 (upd (upd H1 d2 (.own sp)) sp (.ins A.c_State d2 (sfs .non .non .non))):=Same.young (Same.new nd2) nsp
 have hst2:StAt A (upd (upd H1 d2 (.own sp)) sp (.ins A.c_State d2 (sfs .non .non .non))) sp [] [] [] Hushwork.start:=⟨⟨d2,_,_,_,upd_same,rfl,⟨rfl,rfl⟩,⟨rfl,rfl,rfl⟩⟩,by simp⟩
 generalize upd (upd H1 d2 (.own sp)) sp (.ins A.c_State d2 (sfs .non .non .non))=H2 at s2 hst2
 refine fun σ' es=>?_
 obtain rfl:σ'=[some (.ref a),some (.ref rd),some (.ref sp),none,none,none,none,none,none,none]:=es
 refine ⟨Nat.zero_le _,fun tl ntl=>fun σ' es=>?_⟩
 obtain rfl:σ'=[some (.ref a),some (.ref rd),some (.ref sp),some (.ref tl),none,none,none,none,none,none]:=es
 have s3:Same H2 (upd H2 tl (.lst [])):=Same.new ntl
 obtain ⟨dr,hdr⟩:=hrd1
 have hrd2:=s2 _ _ hdr
 obtain ⟨o2,hsp2⟩:=hst2.there sp (List.mem_cons_self ..)
 have hrdsp:rd≠sp:=ne_of_none hdr nsp
 have hrdtl:rd≠tl:=ne_of_none hrd2 ntl
 have hsptl:sp≠tl:=ne_of_none hsp2 ntl
 let I:Nat->L2.St->Hp->Prop:=fun μ σ Hx=>∃(i fuel cnt:Nat) (cs:List (List (List Int))) (st:SState) (FM FT GT:List Addr) (done:List Int) (v4 v5 v6 v7 v8 v9:Option V),μ=ns.length - i/\σ=[some (.ref a),some (.ref rd),some (.ref sp),some (.ref tl),v4,v5,v6,v7,v8,v9]/\i<=ns.length/\
  RdAt A Hx rd a i/\Sta K Hx a (ns.map V.int)/\StAt A Hx sp FM FT GT st/\Hx tl=some (.lst (done.map V.int))/\(rd∉sp::(FM++(FT++GT)))/\(tl∉sp::(FM++(FT++GT)))/\PyFlat.calls PyWqaeav.shape fuel (ns.drop i)=some cs/\(∀c∈cs,asked1 c=true)/\
  PyWqaeav.answers ns=done++PyFlat.told (PyFlat.played HushworkNeutral.step st cs)/\done.length<=3000*cnt/\cnt+cs.length<=400
 have sta:∀{H':Hp},Same H H'->Sta K H' a (ns.map V.int):=fun s=>hSta.keep (s.keep (F:=[]))
 refine ⟨I,⟨_,0,ns.length,0,cs0,Hushwork.start,[],[],[],[],none,none,none,none,none,none,rfl,rfl,Nat.zero_le _,⟨dr,s3 _ _ hrd2⟩,sta ((s1.trans s2).trans s3),hst2.same s3,upd_same,by simpa using hrdsp,by simpa using hsptl.symm,hcs0,hask1,hans,Nat.zero_le _,by omega⟩,?_⟩
 rintro μ σ Hx ⟨i,fuel,cnt,cs,st,FM,FT,GT,done,v4,v5,v6,v7,v8,v9,rfl,rfl,hi,hrd,hsta,hst,htl,nrd,ntl,hcs,hasked,hspec,hdone,hcnt⟩
 obtain ⟨dr,hdr⟩:=id hrd
 refine ⟨_,rfl,rd,dr,_,rfl,.inl hdr,rfs_no (by decide+kernel),rd,a,i,ns,rfl,hrd,hsta,_,rfl,?_⟩
 refine iteB (fun c=>?_) fun c=>?_
 ·simp only [Bool.not_eq_true',decide_eq_false_iff_not] at c
  have hilt:i < ns.length:=by omega
  have hdrop:ns.drop i=ns[i]::ns.drop (i+1):=List.drop_eq_getElem_cons hilt
  rw [hdrop] at hcs
  obtain ⟨f',na,nb,xs,t,cs',hsh,hna,hrows,hcs',rfl⟩:=calls_cons hcs
  have hni:ns[i]?=some ns[i]:=List.getElem?_eq_getElem hilt
  generalize hp0:ns[i]=p0 at hsh hni hasked hspec hcnt
  have hrl:(ns.drop (i+1)).length=ns.length - (i+1):=List.length_drop ..
  have hxl:=rows_len hrows
  have hnl:((ns.drop (i+1)).take na).length=na:=by rw [List.length_take];omega
  obtain ⟨x,hF,hcall⟩:=form_of (n:=p0) (nums:=(ns.drop (i+1)).take na) (rows:=xs) (by rw [hnl,hxl];exact hsh) (hasked _ (List.mem_cons_self ..))
  have hlk:=forms_look hF
  rw [hnl,hxl] at hlk
  have hab:na<=2/\nb<=4:=by
   have:=form_small hF
   rw [hnl,hxl] at this
   exact this
  obtain ⟨kvs,dk,pr⟩:=T.t_FORMS.dk
  obtain ⟨tf,et,hsf⟩:=(lookF_of pr p0).2 _ hlk
  refine ⟨fun σ' H'=>∃m',m' < ns.length - i/\I m' σ' H',fun σ' H' h=>h,?_⟩
  refine ⟨_,rfl,rd,dr,_,rfl,.inl hdr,rfs_no (by decide+kernel),rd,a,i,ns,p0,rfl,hrd,hsta,hni,fun H1 k1 hrd1=>fun σ' es=>?_⟩
  obtain rfl:σ'=[some (.ref a),some (.ref rd),some (.ref sp),some (.ref tl),some (.int p0),v5,v6,v7,v8,v9]:=es
  refine ⟨_,rfl,_,kvs,_,_,rfl,dk,rfl,et,fun σ' es=>?_⟩
  obtain rfl:σ'=[some (.ref a),some (.ref rd),some (.ref sp),some (.ref tl),some (.int p0),some (.ref tf),v6,v7,v8,v9]:=es
  refine ⟨_,rfl,tf,_,_,_,rfl,rfl,hsf _,rfl,na,rfl,by omega,by omega,fun D hD=>?_⟩
  have kk0:∀{Hy:Hp},Keep [rd] Hx Hy->StAt A Hy sp FM FT GT st/\Hy tl=some (.lst (done.map V.int))/\Sta K Hy a (ns.map V.int):=fun {Hy} kk=>
   ⟨hst.keep kk fun b hb z=>nrd (by rw [<-List.mem_singleton.mp z];exact hb),kk.at_ htl (fun z=>(by rw [List.mem_singleton.mp z,hdr] at htl;cases htl)),hsta.keep kk⟩
  have frsh:∀{Hy:Hp} {q:Addr},Keep [rd] Hx Hy->RdAt A Hy rd a (i+1)\/True->Hy q=none->q≠rd->Hx q=none:=fun {Hy q} kk _ hq hne=>kk.some (by simpa using hne) hq
  have hDrd:D≠rd:=fun z=>by obtain ⟨d,hd⟩:=hrd1;rw [z,hd] at hD;cases hD
  have hD0:Hx D=none:=k1.some (by simpa using hDrd) hD
  refine lc_range (lo:=0) (n:=na) (fun j H'=>Keep [rd] Hx H'/\RdAt A H' rd a (i+1+j)/\H' D=some (.lst (((ns.drop (i+1)).take j).map V.int))) ⟨k1.young hD0,?_,upd_same⟩ ?_ ?_
  ·obtain ⟨d,hd⟩:=hrd1
   exact ⟨d,by rw [upd_ne hDrd.symm];exact hd⟩
  ·rintro j H' hj ⟨kj,hrj,hDj⟩
   obtain ⟨d,hd⟩:=id hrj
   obtain ⟨v,hv⟩:∃v,ns[i+1+j]?=some v:=⟨_,List.getElem?_eq_getElem (by omega)⟩
   refine ⟨rfl,_,rfl,rd,d,_,rfl,.inl hd,rfs_no (by decide+kernel),rd,a,i+1+j,ns,v,rfl,hrj,(kk0 kj).2.2,hv,fun H2 k2 hr2=>?_⟩
   have hD2:=k2.at_ hDj (by simpa using hDrd)
   obtain ⟨d',hd'⟩:=hr2
   refine ⟨_,hD2,sz (m:=2) (by rw [List.length_map,List.length_take];omega),(kj.trans k2).young hD0,⟨d',by rw [upd_ne hDrd.symm];exact hd'⟩,?_⟩
   rw [upd_same,take_snoc (l:=ns.drop (i+1)) (x:=v) (by rw [List.getElem?_drop];exact hv),List.map_append]
   rfl
  rintro H2 ⟨k2,hrd2,hD2⟩
  have hnums:(ns.drop (i+1)).take na=(ns.drop (i+1)).take na:=rfl
  refine ⟨_,rfl,tf,_,_,_,rfl,rfl,hsf _,rfl,nb,rfl,by omega,by omega,fun D2 hDn=>?_⟩
  have hD2rd:D2≠rd:=fun z=>by obtain ⟨d,hd⟩:=hrd2;rw [z,hd] at hDn;cases hDn
  have hD2D:D2≠D:=fun z=>by rw [z,hD2] at hDn;cases hDn
  have hD20:Hx D2=none:=k2.some (by simpa using hD2rd) hDn
  rw [List.drop_drop] at hrows
  have hother:∀b∈sp::(FM++(FT++GT)),Hx b≠none:=fun b hb z=>by
   obtain ⟨o,ho⟩:=hst.there b hb
   rw [z] at ho
   cases ho
  refine lc_range (lo:=0) (n:=nb) (fun j H'=>∃(k':Nat) (as:List Addr),Keep [rd] Hx H'/\RdAt A H' rd a k'/\k'<=ns.length/\i < k'/\H' D=some (.lst (((ns.drop (i+1)).take na).map V.int))/\H' D2=some (.lst (as.map V.ref))/\as.length=j/\(∀q∈as,Hx q=none/\q≠D2/\q≠rd)/\
    (∀(q:Nat) (b:Addr) (r:List Int),as[q]?=some b->xs[q]?=some r->H' b=some (.lst (r.map V.int)))/\PyFlat.rows (nb - j) (ns.drop k')=some (xs.drop j,t)) ⟨i+1+na,[],k2.young hD20,?_,by omega,by omega,?_,upd_same,rfl,fun q hq=>(by cases hq),fun q b r e=>(by simp at e),?_⟩ ?_ ?_
  ·obtain ⟨d,hd⟩:=hrd2
   exact ⟨d,by rw [upd_ne hD2rd.symm];exact hd⟩
  ·rw [upd_ne hD2D.symm]
   exact hD2
  ·rw [Nat.sub_zero,List.drop_zero]
   exact hrows
  ·rintro j H' hj ⟨k',as,kj,hrj,hk',hik,hDj,hD2j,has,hfr,hat,hrw⟩
   obtain ⟨m,hm⟩:∃m,nb - j=m+1:=⟨nb - j - 1,by omega⟩
   rw [hm] at hrw
   obtain ⟨n,r',ys,hr1,hr2,hr3,hr4⟩:=rows_cons hrw
   have hklt:k' < ns.length:=by
    by_cases h:k' < ns.length
    ·exact h
    ·rw [List.drop_of_length_le (by omega)] at hr1
     cases hr1
   rw [List.drop_eq_getElem_cons hklt] at hr1
   injection hr1 with hr5 hr6
   have hv:ns[k']?=some (n:Int):=by rw [List.getElem?_eq_getElem hklt,hr5]
   have hl2:r'.length=ns.length - (k'+1):=by rw [<-hr6,List.length_drop]
   obtain ⟨d,hd⟩:=id hrj
   refine ⟨rfl,_,rfl,rd,d,_,rfl,.inl hd,rfs_no (by decide+kernel),rd,a,k',n,ns,rfl,hrj,(kk0 kj).2.2,hv,by omega,fun H3 q k3 hr3' hq0 hq3=>?_⟩
   have hD3:=k3.at_ hDj (by simpa using hDrd)
   have hD23:=k3.at_ hD2j (by simpa using hD2rd)
   obtain ⟨d',hd'⟩:=hr3'
   have hqrd:q≠rd:=fun z=>by rw [z,hd] at hq0;cases hq0
   have hqD2:q≠D2:=fun z=>by rw [z,hD2j] at hq0;cases hq0
   have hqx:Hx q=none:=kj.some (by simpa using hqrd) hq0
   refine ⟨_,hD23,sz (m:=4) (by rw [List.length_map];omega),k'+1+n,as++[q],(kj.trans k3).young hD20,⟨d',by rw [upd_ne hD2rd.symm];exact hd'⟩,by omega,by omega,by rw [upd_ne hD2D.symm];exact hD3,by rw [upd_same,List.map_append];rfl,by rw [List.length_append,has];rfl,fun b hb=>?_,fun i' b r e1 e2=>?_,?_⟩
   ·rcases List.mem_append.mp hb with hb|hb
    ·exact hfr b hb
    ·rw [List.mem_singleton.mp hb]
     exact ⟨hqx,hqD2,hqrd⟩
   ·by_cases hi':i' < as.length
    ·rw [List.getElem?_append_left hi'] at e1
     have h9:=hfr b (List.mem_of_getElem? e1)
     rw [upd_ne h9.2.1]
     exact k3.at_ (hat i' b r e1 e2) (by simpa using h9.2.2)
    ·rw [List.getElem?_append_right (by omega)] at e1
     have hz:i' - as.length=0:=by
      have:=(List.getElem?_eq_some_iff.mp e1).1
      simp at this
      omega
     rw [hz] at e1
     cases e1
     have hij:i'=j:=by omega
     have e3:(xs.drop j)[0]?=some (r'.take n):=by rw [hr4];rfl
     rw [List.getElem?_drop,Nat.add_zero,<-hij,e2] at e3
     injection e3 with e3
     rw [upd_ne hqD2,hq3,e3,hr6]
   ·rw [show nb - (j+1)=m by omega]
    have e4:xs.drop (j+1)=ys:=by
     rw [<-List.drop_drop,hr4]
     rfl
    rw [e4,<-hr3,<-hr6,List.drop_drop]
  rintro H3 ⟨k',as,k3,hrd3,hk',hik,hD3,hD23,has,hfr,hat,hrw⟩
  rw [Nat.sub_self] at hrw
  obtain ⟨_,rfl⟩:=rows_nil hrw
  obtain ⟨hst3,htl3,hsta3⟩:=kk0 k3
  obtain ⟨dr3,hdr3⟩:=id hrd3
  refine ⟨_,rfl,_,rfl,_,rfl,_,rfl,sp,D,D2,p0,FM,FT,GT,st,_,xs,x,rfl,hst3,hF,hD3,by omega,⟨?_,as,hD23,by rw [List.length_map,has,hxl],fun b hb z=>?_,fun q b r e1 e2=>?_⟩,fun H4 q FM' FT' GT' k4 hst4 hnew hq0 hq4=>?_⟩
  ·intro z
   refine hother D2 ?_ hD20
   rcases List.mem_cons.mp z with z|z
   ·rw [z];exact List.mem_cons_self ..
   ·rcases List.mem_append.mp z with z|z
    ·exact List.mem_cons_of_mem _ (List.mem_append_left _ z)
    ·exact List.mem_cons_of_mem _ (List.mem_append_right _ (List.mem_append_left _ z))
  ·refine hother b ?_ (hfr b hb).1
   rcases List.mem_cons.mp z with z|z
   ·rw [z];exact List.mem_cons_self ..
   ·rcases List.mem_append.mp z with z|z
    ·exact List.mem_cons_of_mem _ (List.mem_append_left _ z)
    ·exact List.mem_cons_of_mem _ (List.mem_append_right _ (List.mem_append_left _ z))
  ·rw [List.getElem?_map] at e2
   cases hx:xs[q]? with
   |none=>rw [hx] at e2;cases e2
   |some r0=>
    rw [hx] at e2
    cases e2
    exact hat q b r0 e1 hx
  have sub:∀b,b∈sp::(FM++FT)->b∈sp::(FM++(FT++GT)):=fun b z=>by
   rcases List.mem_cons.mp z with z|z
   ·rw [z];exact List.mem_cons_self ..
   ·rcases List.mem_append.mp z with z|z
    ·exact List.mem_cons_of_mem _ (List.mem_append_left _ z)
    ·exact List.mem_cons_of_mem _ (List.mem_append_right _ (List.mem_append_left _ z))
  have hsmall:=step_small hst3 hF
  have hnl':=nlen (Hushwork.step st x).2
  have hstep:HushworkNeutral.step st ((p0::(ns.drop (i+1)).take na)::xs)=((Hushwork.step st x).1,numbersOf (Hushwork.step st x).2):=by
   unfold HushworkNeutral.step
   rw [hcall]
  have hlen3:(numbersOf (Hushwork.step st x).2).length<=2999:=by
   have:=hsmall.1
   have:=hsmall.2
   omega
  rw [ansV_n] at hq4
  have hspec2:PyWqaeav.answers ns=done++(((numbersOf (Hushwork.step st x).2).length:Int)::numbersOf (Hushwork.step st x).2)++PyFlat.told (PyFlat.played HushworkNeutral.step (Hushwork.step st x).1 cs'):=by
   rw [hspec]
   show done++PyFlat.told ((HushworkNeutral.step st _).2::PyFlat.played HushworkNeutral.step (HushworkNeutral.step st _).1 cs')=_
   rw [hstep]
   show done++((((numbersOf (Hushwork.step st x).2).length:Int)::numbersOf (Hushwork.step st x).2)++PyFlat.told (PyFlat.played HushworkNeutral.step (Hushwork.step st x).1 cs'))=_
   rw [List.append_assoc]
  generalize Hushwork.step st x=z at*
  obtain ⟨st',ans⟩:=z
  dsimp only at hst4 hq4 hspec2 hlen3
  generalize numbersOf ans=an at hq4 hspec2 hlen3
  have htl4:=k4.at_ htl3 fun z=>ntl (sub _ z)
  have hrd4:=k4.at_ hdr3 fun z=>nrd (sub _ z)
  have hsta4:=hsta3.keep k4
  have hqtl:q≠tl:=fun z=>by rw [z,htl3] at hq0;cases hq0
  have ntl':tl∉sp::(FM'++(FT'++GT')):=fun z=>by
   rcases List.mem_cons.mp z with z|z
   ·exact ntl (by rw [z];exact List.mem_cons_self ..)
   ·rcases hnew tl z with h|h
    ·exact ntl (List.mem_cons_of_mem _ h)
    ·rw [htl3] at h;cases h
  have nrd':rd∉sp::(FM'++(FT'++GT')):=fun z=>by
   rcases List.mem_cons.mp z with z|z
   ·exact nrd (by rw [z];exact List.mem_cons_self ..)
   ·rcases hnew rd z with h|h
    ·exact nrd (List.mem_cons_of_mem _ h)
    ·rw [hdr3] at h;cases h
  have hrdtl':rd≠tl:=fun z=>by rw [z,htl] at hdr;cases hdr
  have hd1:done.length<=1200000:=by
   have:cs'.length+1<=400:=by
    have:=hcnt
    rw [List.length_cons] at this
    omega
   have:cnt<=400:=by omega
   omega
  refine fun σ' es=>?_
  obtain rfl:σ'=[some (.ref a),some (.ref rd),some (.ref sp),some (.ref tl),some (.int p0),some (.ref tf),some (.ref D),some (.ref D2),some (.ref q),v9]:=es
  refine ⟨_,rfl,.inl ⟨rfl,_,SqL.of htl4⟩,_,rfl,q,_,rfl,.inl (SqL.of hq4),tl,_,_,rfl,rfl,htl4,?_,?_⟩
  ·rw [List.length_map,sizeLine_eq]
   omega
  have k5:Keep [tl] H4 (upd H4 tl (.lst (done.map V.int++[V.int ((an.map V.int).length:Nat)]))):=Keep.set htl4 (fun z=>z) (by simp)
  refine ⟨_,rfl,.inl ⟨rfl,_,SqL.of upd_same⟩,_,rfl,tl,q,_,_,rfl,rfl,upd_same,k5.at_ hq4 (by simpa using hqtl),?_,?_⟩
  ·rw [List.length_append,List.length_map,List.length_map,sizeLine_eq]
   simp only [List.length_cons,List.length_nil]
   omega
  rw [upd_upd]
  have k6:Keep [tl] H4 (upd H4 tl (.lst (done.map V.int++[V.int ((an.map V.int).length:Nat)]++an.map V.int))):=Keep.set htl4 (fun z=>z) (by simp)
  refine ⟨ns.length - k',by omega,k',f',cnt+1,cs',st',FM',FT',GT',done++((an.length:Int)::an),_,_,_,_,_,_,rfl,rfl,hk',⟨dr3,k6.at_ hrd4 (by simpa using hrdtl')⟩,hsta4.keep k6,hst4.keep k6 (fun b hb z=>ntl' (by rw [<-List.mem_singleton.mp z];exact hb)),?_,nrd',ntl',hcs',fun c hc=>hasked c (List.mem_cons_of_mem _ hc),hspec2,?_,?_⟩
  ·rw [upd_same,List.map_append,List.append_assoc,List.length_map]
   rfl
  ·rw [List.length_append,List.length_cons]
   omega
  ·rw [List.length_cons] at hcnt
   omega
 ·simp only [Bool.not_eq_false',decide_eq_true_eq] at c
  refine ⟨_,rfl,?_⟩
  rw [c,List.drop_length] at hcs
  rw [calls_nil hcs] at hspec
  refine k Hx tl ?_
  rw [htl,hspec]
  show some (HO.lst (done.map V.int))=some (HO.lst ((done++[]).map V.int))
  rw [List.append_nil]
end Hg
namespace PySem.W.Fast
def tw5325637617839620723:=0
def tw5373413602138201216:=0
def tw206562428275578166:=0
def tw18015072142875010165:=0
def tw14952067118517523202:=0
def tw4659761602380964174:=0
def tw15654101213303460840:=0
def tw5966879882082177975:=0
def tw11619837784564303432:=0
def tw7242075698375249969:=0
def tw15235958582024780616:=0
def tw9150342064679394376:=0
def tw12270804461912875224:=0
def tw4404358515065163240:=0
def tw12066412994218343020:=0
def tw9504987707876696042:=0
def tw3607385145160615462:=0
def tw29775236050093564:=0
def tw16675959577525590173:=0
def tw12998327519605865356:=0
def tw17420783868050895033:=0
def tw17743563465232966511:=0
def tw17909602797218580854:=0
def tw4436002742038223639:=0
def tw14090538193355829807:=0
def tw2840239548887207865:=0
def tw10434444186405270057:=0
def tw14763960106733827266:=0
def tw12261481060393277973:=0
def tw9642506281977749253:=0
def tw11554652596451186183:=0
def tw5279279064610774371:=0
def tw14912144971921255699:=0
def tw7256553213062043109:=0
def tw18077803053237315474:=0
def tw15639780417273494106:=0
def tw11824562577562351515:=0
def tw14679931150043505147:=0
def tw15281933808440975941:=0
def tw10476327928228960466:=0
def tw12947967933798510592:=0
def tw12720936486142013162:=0
def tw5394711576963793050:=0
def tw10816942384887841293:=0
def tw5632285018223306521:=0
def tw18403233836472545605:=0
def tw14386384702817956199:=0
def tw10895237124750123689:=0
def tw2517056691336951028:=0
def tw14803708458899655147:=0
def tw8020308944595126971:=0
def tw15234268045931441030:=0
def tw288596089283539651:=0
def tw12321980725298518121:=0
def tw9611942034199445453:=0
def tw5986520616358474542:=0
def tw4362216340633470799:=0
def tw919660787452818055:=0
def tw14556399136454765349:=0
def tw5603373456646059821:=0
def tw15769015074459462564:=0
def tw2643646252902625101:=0
def tw1928951360755630577:=0
def tw8231481317393751307:=0
def tw12692673677682709207:=0
def tw11459105469137455684:=0
def tw2822157739890610230:=0
def tw618653635260737057:=0
def tw6232280355231212518:=0
def tw12821761556751243135:=0
def tw8362768376786028244:=0
def tw1763246234655102834:=0
def tw2854120102762556734:=0
def tw308898354533844531:=0
def tw2137721570804011945:=0
def tw5807216670137215899:=0
def tw5894653151008328196:=0
def tw18443886180342885365:=0
def tw18215501523579353682:=0
def tw6463636259731732936:=0
def tw16727573830940146217:=0
def tw13676207517700044478:=0
def tw13025988913653718357:=0
def tw15481122811382682252:=0
def tw5244647838201850169:=0
def tw7662401265127297152:=0
def tw4694166626944867024:=0
def tw14693065403978832940:=0
def tw7592052238005537782:=0
def tw12140058027446007826:=0
def tw13987271629467921887:=0
def tw13548854717798347699:=0
def tw13207118937690280320:=0
def tw11492640016112596641:=0
def tw1483517701266379982:=0
def tw10805003901776392269:=0
def tw5018936631207190475:=0
def tw11070211219010394630:=0
def tw8056246431028208607:=0
def tw15040183420403375040:=0
def tw5553877659759785035:=0
def tw8972872001669531201:=0
def tw3674062545403742219:=0
def tw3033819454938561574:=0
def tw13682435042323340024:=0
def tw3307690992526336762:=0
def tw6717508094922292732:=0
def tw13081745387996265756:=0
def tw8385063516945036390:=0
def tw12465560802649600411:=0
def tw1586793830058386943:=0
def tw3246856557250854266:=0
def tw733317030486321290:=0
def tw5389294077506885019:=0
def tw7588346362894458062:=0
def tw9190468640654378534:=0
def tw1583825727209354277:=0
def tw6232136099463200501:=0
def tw8127644077659045083:=0
def tw7012538504744976643:=0
def tw18098496606610764971:=0
def tw11854640418000201069:=0
def tw1767327857760968988:=0
def tw3694544501555412727:=0
def tw114114889301240986:=0
def tw15669084278142132323:=0
def tw7107361538554167635:=0
def tw11609031267896570207:=0
def tw1723424769555840664:=0
def tw3365030735249178101:=0
def tw16212073056445391058:=0
def tw7457030717218923269:=0
def tw15404710255352914384:=0
def tw16032495620484031950:=0
def tw332884475727815145:=0
def tw15825137243806548536:=0
def tw4106301580607698786:=0
def tw4369475267668591010:=0
def tw13519245736234938589:=0
def tw11037155442684469374:=0
def tw277154042675671945:=0
def tw17181230439038426217:=0
def tw1508662927437851034:=0
def tw8315596556971616557:=0
def tw2688780085131184897:=0
def tw1435671494135718387:=0
def tw7552399904753096332:=0
def tw18123859686661026211:=0
def tw10449968884989592420:=0
def tw5831834156150651406:=0
def tw4201936063401694020:=0
def tw17918036081245683289:=0
def tw8650296769401677931:=0
def tw6705109356583461719:=0
def tw1871620401839325778:=0
def tw12726842314684224420:=0
def tw9927467831750992275:=0
def tw9389617602512478734:=0
def tw8667690466487580763:=0
def tw1450216969956027395:=0
def tw18272026730281903816:=0
def tw4083553698423635508:=0
def tw13430860686738004848:=0
def tw9671273527201703714:=0
def tw2438648041147667708:=0
def tw4385394108062738219:=0
def tw6275610152551679664:=0
def tw7423876700464079480:=0
def tw3494575962799595129:=0
def tw16833597280272803203:=0
def tw379805148391783180:=0
def tw17549937275260105732:=0
def tw17530171611578762506:=0
def tw11388915172923140818:=0
def tw18175189322996020812:=0
def tw11969327271468911246:=0
def tw16950635728511888027:=0
def tw4098259230590827687:=0
def tw2221516932502160787:=0
def tw13659388992718836930:=0
def tw861746714274498896:=0
def tw2644082669672314383:=0
def tw14547223264312275590:=0
def tw512347381990072346:=0
def tw14744878189954266262:=0
def tw3549601349433864230:=0
def tw12531077288918363559:=0
def tw10979820029027942887:=0
def tw16320734265481832453:=0
def tw13844340499219191937:=0
def tw4456562181518311472:=0
def tw12255667010985051221:=0
def tw17908889089093812708:=0
def tw2179591527284840421:=0
def tw11195779513936751684:=0
def tw8889855869036159629:=0
def tw14471507383162369649:=0
def tw10081506863392093706:=0
def tw3777161884493653354:=0
def tw6382186908547229926:=0
def tw11089411317957052869:=0
def tw16792315141188407670:=0
def tw2355819899485591714:=0
def tw11410201666433735361:=0
def tw16303323637270271429:=0
def tw18344292034510961334:=0
def tw801311626827838280:=0
def tw9465876517461210683:=0
def tw11850102431324319263:=0
def tw8101157968395879301:=0
def tw6076123621336236955:=0
def tw18231411744423436145:=0
def tw13954464537450323266:=0
def tw11825134609298386075:=0
def tw3936702713422919576:=0
def tw6107510715579969662:=0
def tw15460918331451330485:=0
def tw924528358782049473:=0
def tw7589452542331201448:=0
def tw16389032207508032002:=0
def tw12314261379858489612:=0
def tw15061368580542084690:=0
def tw5109916009929997216:=0
def tw11474227373520560512:=0
def tw6005372417931944469:=0
def tw6442632834371716793:=0
def tw5245331641234996140:=0
def tw10273593026166033773:=0
def tw4729553356291025839:=0
def tw123567629055622087:=0
def tw1937301169952037714:=0
def tw15155637232078712621:=0
def tw7191570298731389490:=0
def tw18320953939977946270:=0
def tw15555257914327382847:=0
def tw13371183833258440153:=0
def tw13364850911152157581:=0
def tw10386187271187018525:=0
def tw5273954155281405656:=0
def tw8028169671267013592:=0
def tw13552852593123560058:=0
def tw7481798217104749487:=0
def tw16031252251616203356:=0
def tw3855203141410258754:=0
def tw3807169733186481572:=0
def tw10690127327557673702:=0
def tw13784043763403311594:=0
def tw16277269813872780390:=0
def tw1365937347335472504:=0
def tw2172959212760055282:=0
def tw3865706378930853054:=0
def tw15599029067457450794:=0
def tw16595523840626343430:=0
def tw1499965742190242148:=0
def tw7967179977191321131:=0
def tw10022546960743424562:=0
def tw6985251669861562912:=0
def tw16789283995758006036:=0
def tw1677058256816792586:=0
def tw17913869794698576526:=0
def tw2025317533418307671:=0
def tw7075457672792669920:=0
def tw8367571362420504678:=0
def tw4831022492539092024:=0
def tw5063521281161499759:=0
def tw5885784140768636482:=0
def tw12459393808956223327:=0
def tw11840576710375228205:=0
def tw17265629772456618449:=0
def tw5219121181402471329:=0
def tw13694772628676866478:=0
def tw7096802582775616532:=0
def tw7684289718194877418:=0
def tw15553108767131159583:=0
def tw1807178425213039013:=0
def tw14017442696757023861:=0
def tw16492138724577979539:=0
def tw8998271208759671436:=0
def tw12101874780875283129:=0
def tw18227863012510599731:=0
def tw14889652031230278415:=0
def tw11387590532469159351:=0
def tw10886233302424591685:=0
def tw8083677383481532871:=0
def tw13052991289166728262:=0
def tw12182567363718130222:=0
def tw12981497658169928844:=0
def tw4867509933737007238:=0
def tw12558711684274374498:=0
def tw12994117303845310540:=0
def tw7127015964411531257:=0
def tw10265247353713584272:=0
def tw11069653300044390398:=0
def tw10209061365232868648:=0
def tw9301964864399082526:=0
def tw15674137048258939619:=0
def tw17378042727632819760:=0
def tw13202716491758566957:=0
def tw5859523586454735119:=0
def tw8549359328498098293:=0
def tw9580901325078805161:=0
def tw17585781699359964926:=0
def tw14325804222113527879:=0
def tw8962599092599364967:=0
def tw7635877457560691190:=0
def tw13371249663648951555:=0
def tw4176880207004337811:=0
def tw15836102292805871058:=0
end PySem.W.Fast
open PySem PySem.W PyProof.Rows Hg
set_option maxHeartbeats 0
theorem Hg.mainT (w:World) (K:Frag) (mg:Str->Option Value) (A:Hg.Ad) (base:Heap) (T:Hg.Txt K mg A):L2.FnOk PySem.Challenge.rw_hushgates_s01_answers.prog w K mg base L2.CX0 Hg.LV A.f_answers A.d_answers ["calls"] (Hg.spAns K):=(Hg.ok_answers T).mono (by decide)
theorem PySem.Challenge.cw_hushgates_s01_answers_holds : PySem.Challenge.rw_hushgates_s01_answers.Holds := by
 w_on;k_headS;(case hw=>exact ⟨[.list [.int 6]],by decide+kernel,by decide+kernel⟩)
 k_fillS
 refine L2.walk_specK (r:=PySem.Challenge.rw_hushgates_s01_answers) (k:=LV) (CX:=L2.CX0) (ps:=["calls"]) (sp:=spAns) (by decide+kernel) rfl rfl ⟨rfl,by decide,by decide⟩ (fun w h Y=>PySem.W.kIn_of Y) ?F ?S (fun _ _ _ _ z=>z)
 case F=>
  intro w mg fa h Y KX G hmg
  have f_number_of:=fnAt_mk (x:="number_of") (st:=s_number_of) (ps:=["row"]) KX G
  have f_row_of:=fnAt_mk (x:="row_of") (st:=s_row_of) (ps:=["number"]) KX G
  have f_twice:=fnAt_mk (x:="twice") (st:=s_twice) (ps:=["x"]) KX G
  have f_schedule_of:=fnAt_mk (x:="schedule_of") (st:=s_schedule_of) (ps:=["key"]) KX G
  have f_following_key:=fnAt_mk (x:="following_key") (st:=s_following_key) (ps:=["key","constant"]) KX G
  have f_row_sum:=fnAt_mk (x:="row_sum") (st:=s_row_sum) (ps:=["first","second"]) KX G
  have f_substituted:=fnAt_mk (x:="substituted") (st:=s_substituted) (ps:=["state"]) KX G
  have f_mixed_column:=fnAt_mk (x:="mixed_column") (st:=s_mixed_column) (ps:=["p","q","r","s"]) KX G
  have f_mixed_columns:=fnAt_mk (x:="mixed_columns") (st:=s_mixed_columns) (ps:=["state"]) KX G
  have f_encrypt:=fnAt_mk (x:="encrypt") (st:=s_encrypt) (ps:=["schedule","x"]) KX G
  have f_mix:=fnAt_mk (x:="mix") (st:=s_mix) (ps:=["schedule","x","t"]) KX G
  have f_gate_value:=fnAt_mk (x:="gate_value") (st:=s_gate_value) (ps:=["f","a","b"]) KX G
  have f_is_odd:=fnAt_mk (x:="is_odd") (st:=s_is_odd) (ps:=["f"]) KX G
  have f_colour:=fnAt_mk (x:="colour") (st:=s_colour) (ps:=["label"]) KX G
  have f_garbled_gate:=fnAt_mk (x:="garbled_gate") (st:=s_garbled_gate) (ps:=["schedule","f","g","a","b","d"]) KX G
  have f_even_label:=fnAt_mk (x:="even_label") (st:=s_even_label) (ps:=["f","a","b","d"]) KX G
  have f_garbled_odd:=fnAt_mk (x:="garbled_odd") (st:=s_garbled_odd) (ps:=["schedule","f","g","a","b","d"]) KX G
  have f_both_mixes:=fnAt_mk (x:="both_mixes") (st:=s_both_mixes) (ps:=["schedule","label","d","tweak"]) KX G
  have f_tweak_a:=fnAt_mk (x:="tweak_a") (st:=s_tweak_a) (ps:=["g"]) KX G
  have f_tweak_b:=fnAt_mk (x:="tweak_b") (st:=s_tweak_b) (ps:=["g"]) KX G
  have f_taken_label:=fnAt_mk (x:="taken_label") (st:=s_taken_label) (ps:=["schedule","f","g","a","b","table"]) KX G
  have f_read_circuit:=fnAt_mk (x:="read_circuit") (st:=s_read_circuit) (ps:=["row"]) KX G
  have f_read_gate:=fnAt_mk (x:="read_gate") (st:=s_read_gate) (ps:=["text","wire"]) KX G
  have f_reply:=fnAt_mk (x:="reply") (st:=s_reply) (ps:=["number","row","numbers"]) KX G
  have f_refusal:=fnAt_mk (x:="refusal") (st:=s_refusal) (ps:=["number"]) KX G
  have f_answer_load:=fnAt_mk (x:="answer_load") (st:=s_answer_load) (ps:=["state","rows"]) KX G
  have f_answer_shape:=fnAt_mk (x:="answer_shape") (st:=s_answer_shape) (ps:=["state","rows"]) KX G
  have f_answer_plain:=fnAt_mk (x:="answer_plain") (st:=s_answer_plain) (ps:=["state","rows"]) KX G
  have f_answer_begin:=fnAt_mk (x:="answer_begin") (st:=s_answer_begin) (ps:=["state","rows"]) KX G
  have f_answer_new_taker:=fnAt_mk (x:="answer_new_taker") (st:=s_answer_new_taker) (ps:=["state","rows"]) KX G
  have f_circuit_answer:=fnAt_mk (x:="circuit_answer") (st:=s_circuit_answer) (ps:=["state","number","rows"]) KX G
  have f_answer_twice:=fnAt_mk (x:="answer_twice") (st:=s_answer_twice) (ps:=["numbers","rows"]) KX G
  have f_answer_mix:=fnAt_mk (x:="answer_mix") (st:=s_answer_mix) (ps:=["numbers","rows"]) KX G
  have f_asked_gate:=fnAt_mk (x:="asked_gate") (st:=s_asked_gate) (ps:=["numbers","rows"]) KX G
  have f_answer_table:=fnAt_mk (x:="answer_table") (st:=s_answer_table) (ps:=["numbers","rows"]) KX G
  have f_answer_zero:=fnAt_mk (x:="answer_zero") (st:=s_answer_zero) (ps:=["numbers","rows"]) KX G
  have f_answer_one:=fnAt_mk (x:="answer_one") (st:=s_answer_one) (ps:=["numbers","rows"]) KX G
  have f_gate_answer:=fnAt_mk (x:="gate_answer") (st:=s_gate_answer) (ps:=["number","numbers","rows"]) KX G
  have f_done_number:=fnAt_mk (x:="done_number") (st:=s_done_number) (ps:=["maker"]) KX G
  have f_answer_next:=fnAt_mk (x:="answer_next") (st:=s_answer_next) (ps:=["maker","numbers","rows"]) KX G
  have f_answer_match:=fnAt_mk (x:="answer_match") (st:=s_answer_match) (ps:=["maker","numbers","rows"]) KX G
  have f_answer_tell:=fnAt_mk (x:="answer_tell") (st:=s_answer_tell) (ps:=["maker","numbers","rows"]) KX G
  have f_answer_told:=fnAt_mk (x:="answer_told") (st:=s_answer_told) (ps:=["maker","numbers","rows"]) KX G
  have f_answer_done:=fnAt_mk (x:="answer_done") (st:=s_answer_done) (ps:=["maker","numbers","rows"]) KX G
  have f_answer_hint:=fnAt_mk (x:="answer_hint") (st:=s_answer_hint) (ps:=["maker","numbers","rows"]) KX G
  have f_answer_settle:=fnAt_mk (x:="answer_settle") (st:=s_answer_settle) (ps:=["maker","numbers","rows"]) KX G
  have f_maker_answer:=fnAt_mk (x:="maker_answer") (st:=s_maker_answer) (ps:=["maker","number","numbers","rows"]) KX G
  have f_answer_give:=fnAt_mk (x:="answer_give") (st:=s_answer_give) (ps:=["taker","numbers","rows"]) KX G
  have f_answer_feed:=fnAt_mk (x:="answer_feed") (st:=s_answer_feed) (ps:=["taker","numbers","rows"]) KX G
  have f_answer_label:=fnAt_mk (x:="answer_label") (st:=s_answer_label) (ps:=["taker","numbers","rows"]) KX G
  have f_answer_bit:=fnAt_mk (x:="answer_bit") (st:=s_answer_bit) (ps:=["taker","numbers","rows"]) KX G
  have f_taker_answer:=fnAt_mk (x:="taker_answer") (st:=s_taker_answer) (ps:=["taker","number","numbers","rows"]) KX G
  have f_answers:=fnAt_mk (x:="answers") (st:=s_answers) (ps:=["calls"]) KX G
  have f_answer_of:=fnAt_mk (x:="answer_of") (st:=s_answer_of) (ps:=["state","number","numbers","rows"]) KX G
  have f_is_missing:=fnAt_mk (x:="is_missing") (st:=s_is_missing) (ps:=["state","number"]) KX G
  have m_GarbledGate_init:=mdAt_mk2 (cn:="GarbledGate") (m:="__init__") (qual:="GarbledGate.__init__") (st:=s_GarbledGate_init) (ps:=["self","table","zero"]) KX
  have m_GoesWrong_init:=mdAt_mk2 (cn:="GoesWrong") (m:="__init__") (qual:="GoesWrong.__init__") (st:=s_GoesWrong_init) (ps:=["self","place"]) KX
  have m_Circuit_init:=mdAt_mk2 (cn:="Circuit") (m:="__init__") (qual:="Circuit.__init__") (st:=s_Circuit_init) (ps:=["self","maker_bits","taker_bits","gates","outputs"]) KX
  have m_Circuit_shape:=mdAt_mk2 (cn:="Circuit") (m:="shape") (qual:="Circuit.shape") (st:=s_Circuit_shape) (ps:=["self"]) KX
  have m_Circuit_output_bits:=mdAt_mk2 (cn:="Circuit") (m:="output_bits") (qual:="Circuit.output_bits") (st:=s_Circuit_output_bits) (ps:=["self","bits"]) KX
  have m_CircuitText_init:=mdAt_mk2 (cn:="CircuitText") (m:="__init__") (qual:="CircuitText.__init__") (st:=s_CircuitText_init) (ps:=["self","row"]) KX
  have m_CircuitText_take:=mdAt_mk2 (cn:="CircuitText") (m:="take") (qual:="CircuitText.take") (st:=s_CircuitText_take) (ps:=["self","width","least","most"]) KX
  have m_CircuitText_finish:=mdAt_mk2 (cn:="CircuitText") (m:="finish") (qual:="CircuitText.finish") (st:=s_CircuitText_finish) (ps:=["self"]) KX
  have m_GateWalk_init:=mdAt_mk2 (cn:="GateWalk") (m:="__init__") (qual:="GateWalk.__init__") (st:=s_GateWalk_init) (ps:=["self","circuit","key","labels","delta"]) KX
  have m_GateWalk_gates_done:=mdAt_mk2 (cn:="GateWalk") (m:="gates_done") (qual:="GateWalk.gates_done") (st:=s_GateWalk_gates_done) (ps:=["self"]) KX
  have m_GateWalk_all_done:=mdAt_mk2 (cn:="GateWalk") (m:="all_done") (qual:="GateWalk.all_done") (st:=s_GateWalk_all_done) (ps:=["self"]) KX
  have m_GateWalk_do_even_gates:=mdAt_mk2 (cn:="GateWalk") (m:="do_even_gates") (qual:="GateWalk.do_even_gates") (st:=s_GateWalk_do_even_gates) (ps:=["self"]) KX
  have m_GateWalk_has_input:=mdAt_mk2 (cn:="GateWalk") (m:="has_input") (qual:="GateWalk.has_input") (st:=s_GateWalk_has_input) (ps:=["self","i"]) KX
  have m_GateWalk_has_output:=mdAt_mk2 (cn:="GateWalk") (m:="has_output") (qual:="GateWalk.has_output") (st:=s_GateWalk_has_output) (ps:=["self","j"]) KX
  have m_GateWalk_output_label:=mdAt_mk2 (cn:="GateWalk") (m:="output_label") (qual:="GateWalk.output_label") (st:=s_GateWalk_output_label) (ps:=["self","j"]) KX
  have m_Comparison_init:=mdAt_mk2 (cn:="Comparison") (m:="__init__") (qual:="Comparison.__init__") (st:=s_Comparison_init) (ps:=["self","same","differs"]) KX
  have m_Maker_init:=mdAt_mk2 (cn:="Maker") (m:="__init__") (qual:="Maker.__init__") (st:=s_Maker_init) (ps:=["self","circuit","key","seed"]) KX
  have m_Maker_garbled_next:=mdAt_mk2 (cn:="Maker") (m:="garbled_next") (qual:="Maker.garbled_next") (st:=s_Maker_garbled_next) (ps:=["self"]) KX
  have m_Maker_tell_tables:=mdAt_mk2 (cn:="Maker") (m:="tell_tables") (qual:="Maker.tell_tables") (st:=s_Maker_tell_tables) (ps:=["self","most"]) KX
  have m_Maker_match_tables:=mdAt_mk2 (cn:="Maker") (m:="match_tables") (qual:="Maker.match_tables") (st:=s_Maker_match_tables) (ps:=["self","stream"]) KX
  have m_Maker_other_is_told:=mdAt_mk2 (cn:="Maker") (m:="other_is_told") (qual:="Maker.other_is_told") (st:=s_Maker_other_is_told) (ps:=["self","i","bit"]) KX
  have m_Maker_tell_label:=mdAt_mk2 (cn:="Maker") (m:="tell_label") (qual:="Maker.tell_label") (st:=s_Maker_tell_label) (ps:=["self","i","bit"]) KX
  have m_Taker_init:=mdAt_mk2 (cn:="Taker") (m:="__init__") (qual:="Taker.__init__") (st:=s_Taker_init) (ps:=["self","circuit","key"]) KX
  have m_Taker_keep_label:=mdAt_mk2 (cn:="Taker") (m:="keep_label") (qual:="Taker.keep_label") (st:=s_Taker_keep_label) (ps:=["self","i","label"]) KX
  have m_Taker_lacks_label:=mdAt_mk2 (cn:="Taker") (m:="lacks_label") (qual:="Taker.lacks_label") (st:=s_Taker_lacks_label) (ps:=["self"]) KX
  have m_Taker_is_finished:=mdAt_mk2 (cn:="Taker") (m:="is_finished") (qual:="Taker.is_finished") (st:=s_Taker_is_finished) (ps:=["self"]) KX
  have m_Taker_take_stream:=mdAt_mk2 (cn:="Taker") (m:="take_stream") (qual:="Taker.take_stream") (st:=s_Taker_take_stream) (ps:=["self","stream"]) KX
  have m_Taker_do_odd_gate:=mdAt_mk2 (cn:="Taker") (m:="do_odd_gate") (qual:="Taker.do_odd_gate") (st:=s_Taker_do_odd_gate) (ps:=["self"]) KX
  have m_State_init:=mdAt_mk2 (cn:="State") (m:="__init__") (qual:="State.__init__") (st:=s_State_init) (ps:=["self"]) KX
  have m_CallReader_init:=mdAt_mk2 (cn:="CallReader") (m:="__init__") (qual:="CallReader.__init__") (st:=s_CallReader_init) (ps:=["self","calls"]) KX
  have m_CallReader_at_end:=mdAt_mk2 (cn:="CallReader") (m:="at_end") (qual:="CallReader.at_end") (st:=s_CallReader_at_end) (ps:=["self"]) KX
  have m_CallReader_take_number:=mdAt_mk2 (cn:="CallReader") (m:="take_number") (qual:="CallReader.take_number") (st:=s_CallReader_take_number) (ps:=["self"]) KX
  have m_CallReader_take_row:=mdAt_mk2 (cn:="CallReader") (m:="take_row") (qual:="CallReader.take_row") (st:=s_CallReader_take_row) (ps:=["self"]) KX
  have c_GarbledGate:=clsAt_mk (x:="GarbledGate") (as:=["table","zero"]) KX G (by k_is) (cls_mk (by k_is) (by k_is) (by k_is) (by k_is)) (by k_is) (by k_is) (by k_is) (by k_is) (na_cons (by k_is) (na_cons (by k_is) na_nil))
  have c_Circuit:=clsAt_mk (x:="Circuit") (as:=["maker_bits","taker_bits","inputs","gates","outputs"]) KX G (by k_is) (cls_mk (by k_is) (by k_is) (by k_is) (by k_is)) (by k_is) (by k_is) (by k_is) (by k_is) (na_cons (by k_is) (na_cons (by k_is) (na_cons (by k_is) (na_cons (by k_is) (na_cons (by k_is) na_nil)))))
  have c_CircuitText:=clsAt_mk (x:="CircuitText") (as:=["row","at"]) KX G (by k_is) (cls_mk (by k_is) (by k_is) (by k_is) (by k_is)) (by k_is) (by k_is) (by k_is) (by k_is) (na_cons (by k_is) (na_cons (by k_is) na_nil))
  have c_Comparison:=clsAt_mk (x:="Comparison") (as:=["same","differs"]) KX G (by k_is) (cls_mk (by k_is) (by k_is) (by k_is) (by k_is)) (by k_is) (by k_is) (by k_is) (by k_is) (na_cons (by k_is) (na_cons (by k_is) na_nil))
  have c_Maker:=clsAt_mk (x:="Maker") (as:=["circuit","schedule","labels","delta","inputs_told"]) KX G (by k_is) (cls_mk (by k_is) (by k_is) (by k_is) (by k_is)) (by k_is) (by k_is) (by k_is) (by k_is) (na_cons (by k_is) (na_cons (by k_is) (na_cons (by k_is) (na_cons (by k_is) (na_cons (by k_is) na_nil)))))
  have c_Taker:=clsAt_mk (x:="Taker") (as:=["circuit","schedule","labels","delta","piece","is_fed"]) KX G (by k_is) (cls_mk (by k_is) (by k_is) (by k_is) (by k_is)) (by k_is) (by k_is) (by k_is) (by k_is) (na_cons (by k_is) (na_cons (by k_is) (na_cons (by k_is) (na_cons (by k_is) (na_cons (by k_is) (na_cons (by k_is) na_nil))))))
  have c_State:=clsAt_mk (x:="State") (as:=["circuit","maker","taker"]) KX G (by k_is) (cls_mk (by k_is) (by k_is) (by k_is) (by k_is)) (by k_is) (by k_is) (by k_is) (by k_is) (na_cons (by k_is) (na_cons (by k_is) (na_cons (by k_is) na_nil)))
  have c_CallReader:=clsAt_mk (x:="CallReader") (as:=["calls","at"]) KX G (by k_is) (cls_mk (by k_is) (by k_is) (by k_is) (by k_is)) (by k_is) (by k_is) (by k_is) (by k_is) (na_cons (by k_is) (na_cons (by k_is) na_nil))
  have w_Maker:=wkAt_mk2 (cn:="Maker") (fs:=[("gates_done",_),("all_done",_),("do_even_gates",_),("has_input",_),("has_output",_),("output_label",_),("garbled_next",_),("tell_tables",_),("match_tables",_),("other_is_told",_),("tell_label",_)]) KX (by k_is) (cls_mk (by k_is) (by k_is) (by k_is) (by k_is)) (na_cons (by k_is) (na_cons (by k_is) (na_cons (by k_is) (na_cons (by k_is) na_nil)))) (me_cons (by k_is) (by k_is) (by k_is) (me_cons (by k_is) (by k_is) (by k_is) (me_cons (by k_is) (by k_is) (by k_is) (me_cons (by k_is) (by k_is) (by k_is) (me_cons (by k_is) (by k_is) (by k_is) (me_cons (by k_is) (by k_is) (by k_is) (me_cons (by k_is) (by k_is) (by k_is) (me_cons (by k_is) (by k_is) (by k_is) (me_cons (by k_is) (by k_is) (by k_is) (me_cons (by k_is) (by k_is) (by k_is) (me_cons (by k_is) (by k_is) (by k_is) me_nil)))))))))))
  have w_Taker:=wkAt_mk2 (cn:="Taker") (fs:=[("gates_done",_),("all_done",_),("do_even_gates",_),("has_input",_),("has_output",_),("output_label",_),("keep_label",_),("lacks_label",_),("is_finished",_),("take_stream",_),("do_odd_gate",_)]) KX (by k_is) (cls_mk (by k_is) (by k_is) (by k_is) (by k_is)) (na_cons (by k_is) (na_cons (by k_is) (na_cons (by k_is) (na_cons (by k_is) na_nil)))) (me_cons (by k_is) (by k_is) (by k_is) (me_cons (by k_is) (by k_is) (by k_is) (me_cons (by k_is) (by k_is) (by k_is) (me_cons (by k_is) (by k_is) (by k_is) (me_cons (by k_is) (by k_is) (by k_is) (me_cons (by k_is) (by k_is) (by k_is) (me_cons (by k_is) (by k_is) (by k_is) (me_cons (by k_is) (by k_is) (by k_is) (me_cons (by k_is) (by k_is) (by k_is) (me_cons (by k_is) (by k_is) (by k_is) (me_cons (by k_is) (by k_is) (by k_is) me_nil)))))))))))
  have gw:=gw_mk (x:="GateWalk") KX G (by k_is) (by k_is) (by k_is) (by k_is)
  have ek:=errK_mk (cn:="GoesWrong") (f:="place") KX G (by k_is) (by k_is) (by k_is) (by k_is) (by rfl) (by k_is) (by k_is) (by k_is) (by k_is) (by k_is) (by k_is)
  have i_OVER:=intAt_mk (x:="OVER") (i:=340282366920938463463374607431768211456) KX G (by k_is)
  have i_FALLEN:=intAt_mk (x:="FALLEN") (i:=135) KX G (by k_is)
  have t_S_BOX:=tupAt_mk (x:="S_BOX") (xs:=v_S_BOX) KX G (by k_is) (by k_is) (by rfl) (by decide+kernel)
  have t_DOUBLED:=tupAt_mk (x:="DOUBLED") (xs:=v_DOUBLED) KX G (by k_is) (by k_is) (by rfl) (by decide+kernel)
  have t_ROUND_CONSTANTS:=tupAt_mk (x:="ROUND_CONSTANTS") (xs:=v_ROUND_CONSTANTS) KX G (by k_is) (by k_is) (by rfl) (by decide+kernel)
  have t_SHIFTED:=tupAt_mk (x:="SHIFTED") (xs:=v_SHIFTED) KX G (by k_is) (by k_is) (by rfl) (by decide+kernel)
  have i_MOST_FUNCTION:=intAt_mk (x:="MOST_FUNCTION") (i:=15) KX G (by k_is)
  have i_TABLE_BYTES:=intAt_mk (x:="TABLE_BYTES") (i:=32) KX G (by k_is)
  have i_TWEAKS:=intAt_mk (x:="TWEAKS") (i:=18446744073709551616) KX G (by k_is)
  have t_EVEN:=dtuAt_mk (x:="EVEN") (fs:=v_EVEN) KX G (by k_is) (by k_is) (by rfl) (by rfl) (by rfl) (by decide+kernel) (pt_cons (by k_is) (by rfl) (by decide+kernel) (pt_cons (by k_is) (by rfl) (by decide+kernel) (pt_cons (by k_is) (by rfl) (by decide+kernel) (pt_cons (by k_is) (by rfl) (by decide+kernel) (pt_cons (by k_is) (by rfl) (by decide+kernel) (pt_cons (by k_is) (by rfl) (by decide+kernel) (pt_cons (by k_is) (by rfl) (by decide+kernel) (pt_cons (by k_is) (by rfl) (by decide+kernel) pt_nil))))))))
  have t_ODD:=dtuAt_mk (x:="ODD") (fs:=v_ODD) KX G (by k_is) (by k_is) (by rfl) (by rfl) (by rfl) (by decide+kernel) (pt_cons (by k_is) (by rfl) (by decide+kernel) (pt_cons (by k_is) (by rfl) (by decide+kernel) (pt_cons (by k_is) (by rfl) (by decide+kernel) (pt_cons (by k_is) (by rfl) (by decide+kernel) (pt_cons (by k_is) (by rfl) (by decide+kernel) (pt_cons (by k_is) (by rfl) (by decide+kernel) (pt_cons (by k_is) (by rfl) (by decide+kernel) (pt_cons (by k_is) (by rfl) (by decide+kernel) pt_nil))))))))
  have t_SIGN:=tupAt_mk (x:="SIGN") (xs:=v_SIGN) KX G (by k_is) (by k_is) (by rfl) (by decide+kernel)
  have i_MOST_BITS:=intAt_mk (x:="MOST_BITS") (i:=16) KX G (by k_is)
  have i_MOST_GATES:=intAt_mk (x:="MOST_GATES") (i:=32) KX G (by k_is)
  have i_MOST_OUTPUTS:=intAt_mk (x:="MOST_OUTPUTS") (i:=16) KX G (by k_is)
  have i_LONGEST_PIECE:=intAt_mk (x:="LONGEST_PIECE") (i:=2048) KX G (by k_is)
  have i_NEITHER_TOLD:=intAt_mk (x:="NEITHER_TOLD") (i:=0) KX G (by k_is)
  have i_ZERO_TOLD:=intAt_mk (x:="ZERO_TOLD") (i:=1) KX G (by k_is)
  have i_ONE_TOLD:=intAt_mk (x:="ONE_TOLD") (i:=2) KX G (by k_is)
  have i_LONGEST_TEXT:=intAt_mk (x:="LONGEST_TEXT") (i:=256) KX G (by k_is)
  have t_CIRCUIT_CALLS:=dicAt_mk2 (x:="CIRCUIT_CALLS") (kvs:=[(5,L2.V.ref _),(6,L2.V.ref _),(7,L2.V.ref _),(8,L2.V.ref _),(16,L2.V.ref _)]) KX G (by k_is) (by k_is) (by rfl) (by rfl) (by rfl) (by decide+kernel)
  have t_GATE_CALLS:=dicAt_mk2 (x:="GATE_CALLS") (kvs:=[(0,L2.V.ref _),(1,L2.V.ref _),(2,L2.V.ref _),(3,L2.V.ref _),(4,L2.V.ref _)]) KX G (by k_is) (by k_is) (by rfl) (by rfl) (by rfl) (by decide+kernel)
  have t_MAKER_CALLS:=dicAt_mk2 (x:="MAKER_CALLS") (kvs:=[(9,L2.V.ref _),(10,L2.V.ref _),(11,L2.V.ref _),(12,L2.V.ref _),(13,L2.V.ref _),(14,L2.V.ref _),(15,L2.V.ref _)]) KX G (by k_is) (by k_is) (by rfl) (by rfl) (by rfl) (by decide+kernel)
  have t_TAKER_CALLS:=dicAt_mk2 (x:="TAKER_CALLS") (kvs:=[(17,L2.V.ref _),(18,L2.V.ref _),(19,L2.V.ref _),(20,L2.V.ref _)]) KX G (by k_is) (by k_is) (by rfl) (by rfl) (by rfl) (by decide+kernel)
  have t_FORMS:=dtuAt_mk (x:="FORMS") (fs:=v_FORMS) KX G (by k_is) (by k_is) (by rfl) (by rfl) (by rfl) (by decide+kernel) (pt_cons (by k_is) (by rfl) (by decide+kernel) (pt_cons (by k_is) (by rfl) (by decide+kernel) (pt_cons (by k_is) (by rfl) (by decide+kernel) (pt_cons (by k_is) (by rfl) (by decide+kernel) (pt_cons (by k_is) (by rfl) (by decide+kernel) (pt_cons (by k_is) (by rfl) (by decide+kernel) (pt_cons (by k_is) (by rfl) (by decide+kernel) (pt_cons (by k_is) (by rfl) (by decide+kernel) (pt_cons (by k_is) (by rfl) (by decide+kernel) (pt_cons (by k_is) (by rfl) (by decide+kernel) (pt_cons (by k_is) (by rfl) (by decide+kernel) (pt_cons (by k_is) (by rfl) (by decide+kernel) (pt_cons (by k_is) (by rfl) (by decide+kernel) (pt_cons (by k_is) (by rfl) (by decide+kernel) (pt_cons (by k_is) (by rfl) (by decide+kernel) (pt_cons (by k_is) (by rfl) (by decide+kernel) (pt_cons (by k_is) (by rfl) (by decide+kernel) (pt_cons (by k_is) (by rfl) (by decide+kernel) (pt_cons (by k_is) (by rfl) (by decide+kernel) (pt_cons (by k_is) (by rfl) (by decide+kernel) (pt_cons (by k_is) (by rfl) (by decide+kernel) pt_nil)))))))))))))))))))))
  have i_LAST_GATE_CALL:=intAt_mk (x:="LAST_GATE_CALL") (i:=4) KX G (by k_is)
  have t_CIRCUIT_CALL_NUMBERS:=tupAt_mk (x:="CIRCUIT_CALL_NUMBERS") (xs:=v_CIRCUIT_CALL_NUMBERS) KX G (by k_is) (by k_is) (by rfl) (by decide+kernel)
  have t_MAKER_CALL_NUMBERS:=tupAt_mk (x:="MAKER_CALL_NUMBERS") (xs:=v_MAKER_CALL_NUMBERS) KX G (by k_is) (by k_is) (by rfl) (by decide+kernel)
  have t_TAKER_CALL_NUMBERS:=tupAt_mk (x:="TAKER_CALL_NUMBERS") (xs:=v_TAKER_CALL_NUMBERS) KX G (by k_is) (by k_is) (by rfl) (by decide+kernel)
  have i_SIXTEEN:=intAt_mk (x:="SIXTEEN") (i:=16) KX G (by k_is)
  have n_len:mg "len"=none:=PySem.W.mg_none_of KX G (by k_is)
  have n_range:mg "range"=none:=PySem.W.mg_none_of KX G (by k_is)
  have n_reversed:mg "reversed"=none:=PySem.W.mg_none_of KX G (by k_is)
  have n_zip:mg "zip"=none:=PySem.W.mg_none_of KX G (by k_is)
  have n_any:mg "any"=none:=PySem.W.mg_none_of KX G (by k_is)
  have n_list:mg "list"=none:=PySem.W.mg_none_of KX G (by k_is)
  have e:=hmg.symm.trans f_answers.mg_
  cases e
  refine ⟨_,?_,fun base _ _=>mainT w _ mg ⟨_,_,_,_,_,_,_,_,_,_,_,_,_,_,_,_,_,_,_,_,_,_,_,_,_,_,_,_,_,_,_,_,_,_,_,_,_,_,_,_,_,_,_,_,_,_,_,_,_,_,_,_,_,_,_,_,_,_,_,_,_,_,_,_,_,_,_,_,_,_,_,_,_,_,_,_,_,_,_,_,_,_,_,_,_,_,_,_,_,_,_,_,_,_,_,_,_,_,_,_,_,_,_,_,_,_,_,_,_,_,_,_,_,_,_,_,_,_,_,_,_,_,_,_,_,_,_,_,_,_,_,_,_,_,_,_,_,_,_,_,_,_,_,_,_,_,_,_,_,_,_,_,_,_,_,_,_,_,_,_,_,_,_,_,_,_,_,_,_,_,_,_,_,_,_,_,_,_,_,_,_,_,_,_,_,_,_,_,_,_,_,_,_,_,_,_,_,_,_,_,_⟩ base
   {number_of:=f_number_of,row_of:=f_row_of,twice:=f_twice,schedule_of:=f_schedule_of,following_key:=f_following_key,row_sum:=f_row_sum,substituted:=f_substituted,mixed_column:=f_mixed_column,mixed_columns:=f_mixed_columns,encrypt:=f_encrypt,mix:=f_mix,gate_value:=f_gate_value,is_odd:=f_is_odd,colour:=f_colour,garbled_gate:=f_garbled_gate,even_label:=f_even_label,garbled_odd:=f_garbled_odd,both_mixes:=f_both_mixes,tweak_a:=f_tweak_a,tweak_b:=f_tweak_b,taken_label:=f_taken_label,read_circuit:=f_read_circuit,read_gate:=f_read_gate,reply:=f_reply,refusal:=f_refusal,answer_load:=f_answer_load,answer_shape:=f_answer_shape,answer_plain:=f_answer_plain,answer_begin:=f_answer_begin,answer_new_taker:=f_answer_new_taker,circuit_answer:=f_circuit_answer,answer_twice:=f_answer_twice,answer_mix:=f_answer_mix,asked_gate:=f_asked_gate,answer_table:=f_answer_table,answer_zero:=f_answer_zero,answer_one:=f_answer_one,gate_answer:=f_gate_answer,done_number:=f_done_number,answer_next:=f_answer_next,answer_match:=f_answer_match,answer_tell:=f_answer_tell,answer_told:=f_answer_told,answer_done:=f_answer_done,answer_hint:=f_answer_hint,answer_settle:=f_answer_settle,maker_answer:=f_maker_answer,answer_give:=f_answer_give,answer_feed:=f_answer_feed,answer_label:=f_answer_label,answer_bit:=f_answer_bit,taker_answer:=f_taker_answer,answers:=f_answers,answer_of:=f_answer_of,is_missing:=f_is_missing,GarbledGate_init:=m_GarbledGate_init.1,GoesWrong_init:=m_GoesWrong_init.1,Circuit_init:=m_Circuit_init.1,Circuit_shape:=m_Circuit_shape.1,Circuit_output_bits:=m_Circuit_output_bits.1,CircuitText_init:=m_CircuitText_init.1,CircuitText_take:=m_CircuitText_take.1,CircuitText_finish:=m_CircuitText_finish.1,GateWalk_init:=m_GateWalk_init.1,GateWalk_gates_done:=m_GateWalk_gates_done.1,GateWalk_all_done:=m_GateWalk_all_done.1,GateWalk_do_even_gates:=m_GateWalk_do_even_gates.1,GateWalk_has_input:=m_GateWalk_has_input.1,GateWalk_has_output:=m_GateWalk_has_output.1,GateWalk_output_label:=m_GateWalk_output_label.1,Comparison_init:=m_Comparison_init.1,Maker_init:=m_Maker_init.1,Maker_garbled_next:=m_Maker_garbled_next.1,Maker_tell_tables:=m_Maker_tell_tables.1,Maker_match_tables:=m_Maker_match_tables.1,Maker_other_is_told:=m_Maker_other_is_told.1,Maker_tell_label:=m_Maker_tell_label.1,Taker_init:=m_Taker_init.1,Taker_keep_label:=m_Taker_keep_label.1,Taker_lacks_label:=m_Taker_lacks_label.1,Taker_is_finished:=m_Taker_is_finished.1,Taker_take_stream:=m_Taker_take_stream.1,Taker_do_odd_gate:=m_Taker_do_odd_gate.1,State_init:=m_State_init.1,CallReader_init:=m_CallReader_init.1,CallReader_at_end:=m_CallReader_at_end.1,CallReader_take_number:=m_CallReader_take_number.1,CallReader_take_row:=m_CallReader_take_row.1,c_GarbledGate:=c_GarbledGate,c_Circuit:=c_Circuit,c_CircuitText:=c_CircuitText,c_Comparison:=c_Comparison,c_Maker:=c_Maker,c_Taker:=c_Taker,c_State:=c_State,c_CallReader:=c_CallReader,m_Circuit_shape:=m_Circuit_shape.2,m_Circuit_output_bits:=m_Circuit_output_bits.2,m_CircuitText_take:=m_CircuitText_take.2,m_CircuitText_finish:=m_CircuitText_finish.2,m_CallReader_at_end:=m_CallReader_at_end.2,m_CallReader_take_number:=m_CallReader_take_number.2,m_CallReader_take_row:=m_CallReader_take_row.2,w_Maker:=w_Maker,w_Taker:=w_Taker,mg_GateWalk:=gw.1,ga_GateWalk:=gw.2.1,rd_GateWalk:=gw.2.2.1,fi_GateWalk:=gw.2.2.2,mg_GoesWrong:=ek.1,kp_GoesWrong:=ek.2.1,ex_GoesWrong:=ek.2.2,i_OVER:=i_OVER,i_FALLEN:=i_FALLEN,t_S_BOX:=t_S_BOX,t_DOUBLED:=t_DOUBLED,t_ROUND_CONSTANTS:=t_ROUND_CONSTANTS,t_SHIFTED:=t_SHIFTED,i_MOST_FUNCTION:=i_MOST_FUNCTION,i_TABLE_BYTES:=i_TABLE_BYTES,i_TWEAKS:=i_TWEAKS,t_EVEN:=t_EVEN,t_ODD:=t_ODD,t_SIGN:=t_SIGN,i_MOST_BITS:=i_MOST_BITS,i_MOST_GATES:=i_MOST_GATES,i_MOST_OUTPUTS:=i_MOST_OUTPUTS,i_LONGEST_PIECE:=i_LONGEST_PIECE,i_NEITHER_TOLD:=i_NEITHER_TOLD,i_ZERO_TOLD:=i_ZERO_TOLD,i_ONE_TOLD:=i_ONE_TOLD,i_LONGEST_TEXT:=i_LONGEST_TEXT,t_CIRCUIT_CALLS:=t_CIRCUIT_CALLS,t_GATE_CALLS:=t_GATE_CALLS,t_MAKER_CALLS:=t_MAKER_CALLS,t_TAKER_CALLS:=t_TAKER_CALLS,t_FORMS:=t_FORMS,i_LAST_GATE_CALL:=i_LAST_GATE_CALL,t_CIRCUIT_CALL_NUMBERS:=t_CIRCUIT_CALL_NUMBERS,t_MAKER_CALL_NUMBERS:=t_MAKER_CALL_NUMBERS,t_TAKER_CALL_NUMBERS:=t_TAKER_CALL_NUMBERS,i_SIXTEEN:=i_SIXTEEN,n_len:=n_len,n_range:=n_range,n_reversed:=n_reversed,n_zip:=n_zip,n_any:=n_any,n_list:=n_list}⟩
  exact fun s us hu=>match us,hu with|[_],_=>.of_eq rfl
 case S=>
  intro K H xs a hO hwi hask hx
  cases hx with
  |cons h1 h2=>
   cases h2
   cases h1 with
   |lst hs ha=>
    have e:=L2.ints_dw a.1 _ ha
    subst e
    have q:((Codec.inLen 0 16000 a.1&&a.1.all (Codec.inInt 0 18446744073709551615))&&true)=true:=hwi
    rw [Bool.and_eq_true,Bool.and_eq_true] at q
    exact ⟨_,a.1,rfl,.of hs hO,(Codec.inNat_iff.mp q.1.1).2,fun x hx=>Codec.inInt_iff.mp (List.all_eq_true.mp q.1.2 x hx),hask,fun H' p hp=>.lst (L2.SqL.of hp) (L2.dw_ints _)⟩
